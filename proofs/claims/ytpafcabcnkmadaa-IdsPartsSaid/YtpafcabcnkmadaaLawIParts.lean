/-
  Free, taken and resting numbers are all of them, each once, whatever calls there were (the first 60; conciergelaw11.IdsParts answers true). No condition.
-/
import Derived.Test.YtpafcabcnkmadaaIdDb
import Derived.Test.YtpafcabcnkmadaaOpenI
import Derived.ProofKit
import Derived.OpenShut
import Derived.ChangeOld
namespace Go.Proofs.Ytpafcabcnkmadaa.idsParts
open Go.ChangeShapes Go.WideShapes Go.ChangeAt Go.RowKit
open Go.Proofs.Ytpafcabcnkmadaa.Id
set_option linter.unusedVariables false
set_option linter.unusedSimpArgs false

/-- Between two calls. -/
structure PS (W : World) (gb g gd : Nat) (m : Am) (w : World) (S : Al) (lo F : Int) : Prop where
  both : w.heap[gb]? = some (.cells #[.pointer (some ⟨g, 0, none⟩), .pointer (some ⟨gd, 0, none⟩)] 49 (0, 0))
  la : LA W g m w S
  gb : gb ∉ Fm g m
  low : S.low = lo
  high : S.high = F
theorem PS.gr {W w w' : World} {gb g gd : Nat} {m : Am} {S : Al} {lo F : Int} (h : PS W gb g gd m w S lo F) (hb : Below w.heap.size w w') : PS W gb g gd m w' S lo F := ⟨heap_below h.both hb, h.la.gr hb, h.gb, h.low, h.high⟩
theorem PS.stp {W w w' : World} {gb g gd : Nat} {m m' : Am} {S T : Al} {lo F : Int} (h : PS W gb g gd m w S lo F) (hl : LA W g m' w' T) (hs : Stp g m m' w w') (h1 : T.low = S.low) (h2 : T.high = S.high) : PS W gb g gd m' w' T lo F := by
  have hlt := (Array.getElem?_eq_some_iff.1 h.both).1
  refine ⟨(hs.tr.block gb hlt h.gb).trans h.both, hl, fun hk => ?_, h1.trans h.low, h2.trans h.high⟩
  rcases hs.blk gb hk with h3 | h3
  · exact h.gb h3
  · omega
set_option maxRecDepth 20000 in
set_option maxHeartbeats 8000000 in
theorem walk (W : World) (lo : Int) (w0 : (Lit.int .i64 lo).wf = true) (hi : Int) (w1 : (Lit.int .i64 hi).wf = true) (q : Int) (w2 : (Lit.int .i64 q).wf = true) (a3 : Option Addr) (n3 c3 : Nat) (qs : List Oq) (hq : OqR W (.slice a3 n3 c3) n3 qs) :
    Calls Try.prog 6 #[.int .i64 lo, .int .i64 hi, .int .i64 q, .slice a3 n3 c3] W fun e w' => e = .returned (.bool true) ∧ Below W.heap.size W w' := by
  have HA := Lib.hid (fun w => awake_any w)
  have HQ := Lib.hid hq
  have HQL := Lib.hid hq.len
  have hn63 : (n3 : Int) ≤ 9223372036854775807 := by
    obtain ⟨b, c, es0, hcc, hcm⟩ := hq.rd.shape
    simp only [Value.slice.injEq] at es0
    obtain ⟨_, _, rfl⟩ := es0
    unfold maxLen at hcm
    omega
  have HN63 := Lib.hid hn63
  clear w0 w1 w2 hq hn63
  go_enter Try.func6, Try.ntmps6
  go_wp2_with fail
  refine (HA.out _).mono ?_
  rintro e w1 ⟨rfl, hb⟩
  have HB := Lib.hid hb
  clear hb HA
  go_wp2_with fail
  refine (begin_any W lo hi q _ HB.out).mono ?_
  rintro e w2 (⟨_, rfl, hb⟩ | ⟨hok, gb, rfl, g, gd, m, rv, hbg⟩)
  · have HB2 := Lib.hid hb
    clear hb
    go_wp2
    go_ret
    exact ⟨rfl, HB2.out⟩
  obtain ⟨F, hF⟩ : ∃ F, F = few lo hi := ⟨_, rfl⟩
  have hfle := few_le hok
  rw [← hF] at hok hbg hfle
  have HF : Hid (F ≤ lo + 12 ∧ 1 ≤ lo ∧ F ≤ 65534) := ⟨hfle, hok.1, hok.2.1⟩
  have HPS : Hid (∃ m S, PS W gb g gd m w2 S lo F) := ⟨m, _, hbg.both, hbg.la, hbg.gb.1, rfl, rfl⟩
  clear hF hfle hok hbg HB
  go_wp2_with fail
  go_loopw [11] (fun iv wr => ∃ (i : Nat), i ≤ n3 ∧ i ≤ 60 ∧ iv = .int .i64 (i : Int) ∧ ∃ m S, PS W gb g gd m wr S lo F) (fun iv _ => n3 - (intOf iv).toNat)
  case atStart => exact ⟨0, Nat.zero_le _, Nat.zero_le _, rfl, HPS.out⟩
  case round =>
    clear HPS
    have h63 := HN63.out
    obtain ⟨i, hin, hi60, rfl, m, S, hps⟩ := hrel
    have HPS := Lib.hid hps
    clear hps
    by_cases hlt : i < n3
    · by_cases hl60 : i < 60
      · have hil : i < qs.length := by rw [HQL.out]; exact hlt
        obtain ⟨b, o, ea, hbl, hcel⟩ := HQ.out.cells (by omega)
        subst ea
        obtain ⟨⟨kd, id, x⟩, hqe⟩ : ∃ q : Oq, q = qs[i] := ⟨_, rfl⟩
        have hcc := hcel i hil
        rw [← hqe] at hcc
        obtain ⟨hc0, hc1, hc2⟩ := hcc
        have HC0 : Hid (∀ w' : World, Below W.heap.size W w' → w'.cell? ⟨b, o + i * 3, none⟩ = some (.int .i64 kd) ∧ w'.cell? ⟨b, o + i * 3 + 1, none⟩ = some (.int .i64 id) ∧ w'.cell? ⟨b, o + i * 3 + 2, none⟩ = some (.int .i64 x)) := fun w' hw => ⟨cell_gr hw hc0, cell_gr hw hc1, cell_gr hw hc2⟩
        clear hil hbl hcel hqe hc0 hc1 hc2
        obtain ⟨c0, c1, c2⟩ := HC0.out _ HPS.out.la.low
        have hle : i + 1 ≤ n3 := by omega
        have hle60 : i + 1 ≤ 60 := by omega
        go_upto_if 44 with fail
        go_cut [44] (fun _ wx => ∃ m S, Hid (PS W gb g gd m wx S lo F))
        case first =>
          by_cases hk : kd = 1
          · have HT := Lib.hid (fun (w' : World) (hw : Gr wr w') => take_lb (HPS.out.gr hw).la x)
            go_upto_region 10 with fail
            have HC : Hid (Gr wr wr.drew) := Gr.drew wr
            refine wp_region_G 9 Gr (by kernel_rfl) ?_
            generalize wr.drew = wc at HC ⊢
            -- 0: slot 45
            refine wpG_take preGr (i := 0) (v := ?_) (by kernel_rfl) (some 45) (by kernel_rfl) rfl (by kernel_rfl) (by kernel_rfl) (by kernel_rfl) (fun _ _ _ h => h) (by rfl) (fun w' hw' => ?_) rfl ?_
            rotate_left
            · try (have hxx := HPS.out.gr (Gr.trans HC.out hw'); have hq2 := cells2 hxx.both; obtain ⟨k0, k1⟩ := hq2; have hq3 := HC0.out _ hxx.la.low; obtain ⟨c0, c1, c2⟩ := hq3; clear hxx)
              go_simp
              with_reducible rfl
            simp only [Act.put, List.setIfInBounds_toArray, List.set_cons_zero, List.set_cons_succ]
            -- 1: slot 46
            refine wpG_take preGr (i := 1) (v := ?_) (by kernel_rfl) (some 46) (by kernel_rfl) rfl (by kernel_rfl) (by kernel_rfl) (by kernel_rfl) (fun _ _ _ h => h) (by rfl) (fun w' hw' => ?_) rfl ?_
            rotate_left
            · try (have hxx := HPS.out.gr (Gr.trans HC.out hw'); have hq2 := cells2 hxx.both; obtain ⟨k0, k1⟩ := hq2; have hq3 := HC0.out _ hxx.la.low; obtain ⟨c0, c1, c2⟩ := hq3; clear hxx)
              go_simp
              with_reducible rfl
            simp only [Act.put, List.setIfInBounds_toArray, List.set_cons_zero, List.set_cons_succ]
            -- 2: slot 47
            refine wpG_take preGr (i := 2) (v := ?_) (by kernel_rfl) (some 47) (by kernel_rfl) rfl (by kernel_rfl) (by kernel_rfl) (by kernel_rfl) (fun _ _ _ h => h) (by rfl) (fun w' hw' => ?_) rfl ?_
            rotate_left
            · try (have hxx := HPS.out.gr (Gr.trans HC.out hw'); have hq2 := cells2 hxx.both; obtain ⟨k0, k1⟩ := hq2; have hq3 := HC0.out _ hxx.la.low; obtain ⟨c0, c1, c2⟩ := hq3; clear hxx)
              go_simp
              with_reducible rfl
            simp only [Act.put, List.setIfInBounds_toArray, List.set_cons_zero, List.set_cons_succ]
            -- 3: slot 48
            refine wpG_take preGr (i := 3) (v := ?_) (by kernel_rfl) (some 48) (by kernel_rfl) rfl (by kernel_rfl) (by kernel_rfl) (by kernel_rfl) (fun _ _ _ h => h) (by rfl) (fun w' hw' => ?_) rfl ?_
            rotate_left
            · try (have hxx := HPS.out.gr (Gr.trans HC.out hw'); have hq2 := cells2 hxx.both; obtain ⟨k0, k1⟩ := hq2; have hq3 := HC0.out _ hxx.la.low; obtain ⟨c0, c1, c2⟩ := hq3; clear hxx)
              go_simp
              with_reducible rfl
            simp only [Act.put, List.setIfInBounds_toArray, List.set_cons_zero, List.set_cons_succ]
            -- 4: slot 49
            refine wpG_take preGr (i := 4) (v := ?_) (by kernel_rfl) (some 49) (by kernel_rfl) rfl (by kernel_rfl) (by kernel_rfl) (by kernel_rfl) (fun _ _ _ h => h) (by rfl) (fun w' hw' => ?_) rfl ?_
            rotate_left
            · try (have hxx := HPS.out.gr (Gr.trans HC.out hw'); have hq2 := cells2 hxx.both; obtain ⟨k0, k1⟩ := hq2; have hq3 := HC0.out _ hxx.la.low; obtain ⟨c0, c1, c2⟩ := hq3; clear hxx)
              go_simp
              with_reducible rfl
            simp only [Act.put, List.setIfInBounds_toArray, List.set_cons_zero, List.set_cons_succ]
            -- 5: slot 50
            refine wpG_take preGr (i := 5) (v := ?_) (by kernel_rfl) (some 50) (by kernel_rfl) rfl (by kernel_rfl) (by kernel_rfl) (by kernel_rfl) (fun _ _ _ h => h) (by rfl) (fun w' hw' => ?_) rfl ?_
            rotate_left
            · try (have hxx := HPS.out.gr (Gr.trans HC.out hw'); have hq2 := cells2 hxx.both; obtain ⟨k0, k1⟩ := hq2; have hq3 := HC0.out _ hxx.la.low; obtain ⟨c0, c1, c2⟩ := hq3; clear hxx)
              go_simp
              with_reducible rfl
            simp only [Act.put, List.setIfInBounds_toArray, List.set_cons_zero, List.set_cons_succ]
            -- 6: slot 51
            refine wpG_take preGr (i := 6) (v := ?_) (by kernel_rfl) (some 51) (by kernel_rfl) rfl (by kernel_rfl) (by kernel_rfl) (by kernel_rfl) (fun _ _ _ h => h) (by rfl) (fun w' hw' => ?_) rfl ?_
            rotate_left
            · try (have hxx := HPS.out.gr (Gr.trans HC.out hw'); have hq2 := cells2 hxx.both; obtain ⟨k0, k1⟩ := hq2; have hq3 := HC0.out _ hxx.la.low; obtain ⟨c0, c1, c2⟩ := hq3; clear hxx)
              go_simp
              with_reducible rfl
            simp only [Act.put, List.setIfInBounds_toArray, List.set_cons_zero, List.set_cons_succ]
            -- 7: slot 52
            refine wpG_take preGr (i := 7) (v := ?_) (by kernel_rfl) (some 52) (by kernel_rfl) rfl (by kernel_rfl) (by kernel_rfl) (by kernel_rfl) (fun _ _ _ h => h) (by rfl) (fun w' hw' => ?_) rfl ?_
            rotate_left
            · try (have hxx := HPS.out.gr (Gr.trans HC.out hw'); have hq2 := cells2 hxx.both; obtain ⟨k0, k1⟩ := hq2; have hq3 := HC0.out _ hxx.la.low; obtain ⟨c0, c1, c2⟩ := hq3; clear hxx)
              go_simp
              with_reducible rfl
            simp only [Act.put, List.setIfInBounds_toArray, List.set_cons_zero, List.set_cons_succ]
            -- 8: slot 53
            refine wpG_take preGr (i := 8) (v := ?_) (by kernel_rfl) (some 53) (by kernel_rfl) rfl (by kernel_rfl) (by kernel_rfl) (by kernel_rfl) (fun _ _ _ h => h) (by rfl) (fun w' hw' => ?_) rfl ?_
            rotate_left
            · try (have hxx := HPS.out.gr (Gr.trans HC.out hw'); have hq2 := cells2 hxx.both; obtain ⟨k0, k1⟩ := hq2; have hq3 := HC0.out _ hxx.la.low; obtain ⟨c0, c1, c2⟩ := hq3; clear hxx)
              go_simp
              with_reducible rfl
            simp only [Act.put, List.setIfInBounds_toArray, List.set_cons_zero, List.set_cons_succ]
            refine wpG_tail (i := 9) (by decide) rfl (by kernel_rfl) (by rfl) ?_
            go_simp
            refine (HT.out wc HC.out).mono ?_
            rintro e w5 ⟨rfl, m5, hl5, hs5⟩
            have htk := take_ok HPS.out.la.al.ok x
            have HP5 := Lib.hid ((HPS.out.gr HC.out).stp hl5 hs5 htk.2.1 htk.2.2.1)
            clear hl5 hs5 htk
            try simp only [Act.put, List.setIfInBounds_toArray, List.set_cons_zero, List.set_cons_succ]
            refine wpG_done (by kernel_rfl) ?_ _
            go_wp2_with fail
            go_meet
            exact ⟨_, _, HP5⟩
          · have hk2 : (kd == 1) = false := by rw [beq_eq_false_iff_ne]; exact hk
            have HT := Lib.hid (fun (w' : World) (hw : Gr wr w') => give_lb (HPS.out.gr hw).la id x)
            go_upto_region 11 with fail
            have HC : Hid (Gr wr wr.drew) := Gr.drew wr
            refine wp_region_G 14 Gr (by kernel_rfl) ?_
            generalize wr.drew = wc at HC ⊢
            -- 0: slot 55
            refine wpG_take preGr (i := 0) (v := ?_) (by kernel_rfl) (some 55) (by kernel_rfl) rfl (by kernel_rfl) (by kernel_rfl) (by kernel_rfl) (fun _ _ _ h => h) (by rfl) (fun w' hw' => ?_) rfl ?_
            rotate_left
            · try (have hxx := HPS.out.gr (Gr.trans HC.out hw'); have hq2 := cells2 hxx.both; obtain ⟨k0, k1⟩ := hq2; have hq3 := HC0.out _ hxx.la.low; obtain ⟨c0, c1, c2⟩ := hq3; clear hxx)
              go_simp
              with_reducible rfl
            simp only [Act.put, List.setIfInBounds_toArray, List.set_cons_zero, List.set_cons_succ]
            -- 1: slot 56
            refine wpG_take preGr (i := 1) (v := ?_) (by kernel_rfl) (some 56) (by kernel_rfl) rfl (by kernel_rfl) (by kernel_rfl) (by kernel_rfl) (fun _ _ _ h => h) (by rfl) (fun w' hw' => ?_) rfl ?_
            rotate_left
            · try (have hxx := HPS.out.gr (Gr.trans HC.out hw'); have hq2 := cells2 hxx.both; obtain ⟨k0, k1⟩ := hq2; have hq3 := HC0.out _ hxx.la.low; obtain ⟨c0, c1, c2⟩ := hq3; clear hxx)
              go_simp
              with_reducible rfl
            simp only [Act.put, List.setIfInBounds_toArray, List.set_cons_zero, List.set_cons_succ]
            -- 2: slot 57
            refine wpG_take preGr (i := 2) (v := ?_) (by kernel_rfl) (some 57) (by kernel_rfl) rfl (by kernel_rfl) (by kernel_rfl) (by kernel_rfl) (fun _ _ _ h => h) (by rfl) (fun w' hw' => ?_) rfl ?_
            rotate_left
            · try (have hxx := HPS.out.gr (Gr.trans HC.out hw'); have hq2 := cells2 hxx.both; obtain ⟨k0, k1⟩ := hq2; have hq3 := HC0.out _ hxx.la.low; obtain ⟨c0, c1, c2⟩ := hq3; clear hxx)
              go_simp
              with_reducible rfl
            simp only [Act.put, List.setIfInBounds_toArray, List.set_cons_zero, List.set_cons_succ]
            -- 3: slot 58
            refine wpG_take preGr (i := 3) (v := ?_) (by kernel_rfl) (some 58) (by kernel_rfl) rfl (by kernel_rfl) (by kernel_rfl) (by kernel_rfl) (fun _ _ _ h => h) (by rfl) (fun w' hw' => ?_) rfl ?_
            rotate_left
            · try (have hxx := HPS.out.gr (Gr.trans HC.out hw'); have hq2 := cells2 hxx.both; obtain ⟨k0, k1⟩ := hq2; have hq3 := HC0.out _ hxx.la.low; obtain ⟨c0, c1, c2⟩ := hq3; clear hxx)
              go_simp
              with_reducible rfl
            simp only [Act.put, List.setIfInBounds_toArray, List.set_cons_zero, List.set_cons_succ]
            -- 4: slot 59
            refine wpG_take preGr (i := 4) (v := ?_) (by kernel_rfl) (some 59) (by kernel_rfl) rfl (by kernel_rfl) (by kernel_rfl) (by kernel_rfl) (fun _ _ _ h => h) (by rfl) (fun w' hw' => ?_) rfl ?_
            rotate_left
            · try (have hxx := HPS.out.gr (Gr.trans HC.out hw'); have hq2 := cells2 hxx.both; obtain ⟨k0, k1⟩ := hq2; have hq3 := HC0.out _ hxx.la.low; obtain ⟨c0, c1, c2⟩ := hq3; clear hxx)
              go_simp
              with_reducible rfl
            simp only [Act.put, List.setIfInBounds_toArray, List.set_cons_zero, List.set_cons_succ]
            -- 5: slot 60
            refine wpG_take preGr (i := 5) (v := ?_) (by kernel_rfl) (some 60) (by kernel_rfl) rfl (by kernel_rfl) (by kernel_rfl) (by kernel_rfl) (fun _ _ _ h => h) (by rfl) (fun w' hw' => ?_) rfl ?_
            rotate_left
            · try (have hxx := HPS.out.gr (Gr.trans HC.out hw'); have hq2 := cells2 hxx.both; obtain ⟨k0, k1⟩ := hq2; have hq3 := HC0.out _ hxx.la.low; obtain ⟨c0, c1, c2⟩ := hq3; clear hxx)
              go_simp
              with_reducible rfl
            simp only [Act.put, List.setIfInBounds_toArray, List.set_cons_zero, List.set_cons_succ]
            -- 6: slot 61
            refine wpG_take preGr (i := 6) (v := ?_) (by kernel_rfl) (some 61) (by kernel_rfl) rfl (by kernel_rfl) (by kernel_rfl) (by kernel_rfl) (fun _ _ _ h => h) (by rfl) (fun w' hw' => ?_) rfl ?_
            rotate_left
            · try (have hxx := HPS.out.gr (Gr.trans HC.out hw'); have hq2 := cells2 hxx.both; obtain ⟨k0, k1⟩ := hq2; have hq3 := HC0.out _ hxx.la.low; obtain ⟨c0, c1, c2⟩ := hq3; clear hxx)
              go_simp
              with_reducible rfl
            simp only [Act.put, List.setIfInBounds_toArray, List.set_cons_zero, List.set_cons_succ]
            -- 7: slot 62
            refine wpG_take preGr (i := 7) (v := ?_) (by kernel_rfl) (some 62) (by kernel_rfl) rfl (by kernel_rfl) (by kernel_rfl) (by kernel_rfl) (fun _ _ _ h => h) (by rfl) (fun w' hw' => ?_) rfl ?_
            rotate_left
            · try (have hxx := HPS.out.gr (Gr.trans HC.out hw'); have hq2 := cells2 hxx.both; obtain ⟨k0, k1⟩ := hq2; have hq3 := HC0.out _ hxx.la.low; obtain ⟨c0, c1, c2⟩ := hq3; clear hxx)
              go_simp
              with_reducible rfl
            simp only [Act.put, List.setIfInBounds_toArray, List.set_cons_zero, List.set_cons_succ]
            -- 8: slot 63
            refine wpG_take preGr (i := 8) (v := ?_) (by kernel_rfl) (some 63) (by kernel_rfl) rfl (by kernel_rfl) (by kernel_rfl) (by kernel_rfl) (fun _ _ _ h => h) (by rfl) (fun w' hw' => ?_) rfl ?_
            rotate_left
            · try (have hxx := HPS.out.gr (Gr.trans HC.out hw'); have hq2 := cells2 hxx.both; obtain ⟨k0, k1⟩ := hq2; have hq3 := HC0.out _ hxx.la.low; obtain ⟨c0, c1, c2⟩ := hq3; clear hxx)
              go_simp
              with_reducible rfl
            simp only [Act.put, List.setIfInBounds_toArray, List.set_cons_zero, List.set_cons_succ]
            -- 9: slot 64
            refine wpG_take preGr (i := 9) (v := ?_) (by kernel_rfl) (some 64) (by kernel_rfl) rfl (by kernel_rfl) (by kernel_rfl) (by kernel_rfl) (fun _ _ _ h => h) (by rfl) (fun w' hw' => ?_) rfl ?_
            rotate_left
            · try (have hxx := HPS.out.gr (Gr.trans HC.out hw'); have hq2 := cells2 hxx.both; obtain ⟨k0, k1⟩ := hq2; have hq3 := HC0.out _ hxx.la.low; obtain ⟨c0, c1, c2⟩ := hq3; clear hxx)
              go_simp
              with_reducible rfl
            simp only [Act.put, List.setIfInBounds_toArray, List.set_cons_zero, List.set_cons_succ]
            -- 10: slot 65
            refine wpG_take preGr (i := 10) (v := ?_) (by kernel_rfl) (some 65) (by kernel_rfl) rfl (by kernel_rfl) (by kernel_rfl) (by kernel_rfl) (fun _ _ _ h => h) (by rfl) (fun w' hw' => ?_) rfl ?_
            rotate_left
            · try (have hxx := HPS.out.gr (Gr.trans HC.out hw'); have hq2 := cells2 hxx.both; obtain ⟨k0, k1⟩ := hq2; have hq3 := HC0.out _ hxx.la.low; obtain ⟨c0, c1, c2⟩ := hq3; clear hxx)
              go_simp
              with_reducible rfl
            simp only [Act.put, List.setIfInBounds_toArray, List.set_cons_zero, List.set_cons_succ]
            -- 11: slot 66
            refine wpG_take preGr (i := 11) (v := ?_) (by kernel_rfl) (some 66) (by kernel_rfl) rfl (by kernel_rfl) (by kernel_rfl) (by kernel_rfl) (fun _ _ _ h => h) (by rfl) (fun w' hw' => ?_) rfl ?_
            rotate_left
            · try (have hxx := HPS.out.gr (Gr.trans HC.out hw'); have hq2 := cells2 hxx.both; obtain ⟨k0, k1⟩ := hq2; have hq3 := HC0.out _ hxx.la.low; obtain ⟨c0, c1, c2⟩ := hq3; clear hxx)
              go_simp
              with_reducible rfl
            simp only [Act.put, List.setIfInBounds_toArray, List.set_cons_zero, List.set_cons_succ]
            -- 12: slot 67
            refine wpG_take preGr (i := 12) (v := ?_) (by kernel_rfl) (some 67) (by kernel_rfl) rfl (by kernel_rfl) (by kernel_rfl) (by kernel_rfl) (fun _ _ _ h => h) (by rfl) (fun w' hw' => ?_) rfl ?_
            rotate_left
            · try (have hxx := HPS.out.gr (Gr.trans HC.out hw'); have hq2 := cells2 hxx.both; obtain ⟨k0, k1⟩ := hq2; have hq3 := HC0.out _ hxx.la.low; obtain ⟨c0, c1, c2⟩ := hq3; clear hxx)
              go_simp
              with_reducible rfl
            simp only [Act.put, List.setIfInBounds_toArray, List.set_cons_zero, List.set_cons_succ]
            -- 13: slot 68
            refine wpG_take preGr (i := 13) (v := ?_) (by kernel_rfl) (some 68) (by kernel_rfl) rfl (by kernel_rfl) (by kernel_rfl) (by kernel_rfl) (fun _ _ _ h => h) (by rfl) (fun w' hw' => ?_) rfl ?_
            rotate_left
            · try (have hxx := HPS.out.gr (Gr.trans HC.out hw'); have hq2 := cells2 hxx.both; obtain ⟨k0, k1⟩ := hq2; have hq3 := HC0.out _ hxx.la.low; obtain ⟨c0, c1, c2⟩ := hq3; clear hxx)
              go_simp
              with_reducible rfl
            simp only [Act.put, List.setIfInBounds_toArray, List.set_cons_zero, List.set_cons_succ]
            refine wpG_tail (i := 14) (by decide) rfl (by kernel_rfl) (by rfl) ?_
            go_simp
            refine (HT.out wc HC.out).mono ?_
            rintro e w5 ⟨rfl, m5, hl5, hs5⟩
            have htk := give_ok HPS.out.la.al.ok id x
            have HP5 := Lib.hid ((HPS.out.gr HC.out).stp hl5 hs5 htk.2.1 htk.2.2.1)
            clear hl5 hs5 htk
            try simp only [Act.put, List.setIfInBounds_toArray, List.set_cons_zero, List.set_cons_succ]
            refine wpG_done (by kernel_rfl) ?_ _
            go_wp2_with fail
            go_meet
            exact ⟨_, _, HP5⟩
        case rest =>
          obtain ⟨m2, S2, HP⟩ := hcut
          obtain ⟨w3, hw3⟩ : ∃ x, x = wc := ⟨_, rfl⟩
          subst hw3
          clear c0 c1 c2 HPS
          go_upto_region 12 with fail
          go_cut [12, 13] (fun s12 s13 wx => ∃ A C A2 C2, s12 = .slice A S2.used.length C ∧ s13 = .slice A2 S2.rest.length C2 ∧ Hid (PS W gb g gd m2 wx S2 lo F) ∧ Hid (RR wx (.slice A2 S2.rest.length C2) S2.rest))
          case first =>
            have HC : Hid (Gr w3 w3.drew) := Gr.drew w3
            refine wp_region_G 12 Gr (by kernel_rfl) ?_
            generalize w3.drew = wc at HC ⊢
            -- 0: slot 70
            refine wpG_take preGr (i := 0) (v := ?_) (by kernel_rfl) (some 70) (by kernel_rfl) rfl (by kernel_rfl) (by kernel_rfl) (by kernel_rfl) (fun _ _ _ h => h) (by rfl) (fun w' hw' => ?_) rfl ?_
            rotate_left
            · try (have hxx := HP.out.gr (Gr.trans HC.out hw'); have hq2 := cells2 hxx.both; obtain ⟨k0, k1⟩ := hq2; clear hxx)
              go_simp
              with_reducible rfl
            simp only [Act.put, List.setIfInBounds_toArray, List.set_cons_zero, List.set_cons_succ]
            -- 1: slot 71
            refine wpG_take preGr (i := 1) (v := ?_) (by kernel_rfl) (some 71) (by kernel_rfl) rfl (by kernel_rfl) (by kernel_rfl) (by kernel_rfl) (fun _ _ _ h => h) (by rfl) (fun w' hw' => ?_) rfl ?_
            rotate_left
            · try (have hxx := HP.out.gr (Gr.trans HC.out hw'); have hq2 := cells2 hxx.both; obtain ⟨k0, k1⟩ := hq2; clear hxx)
              go_simp
              with_reducible rfl
            simp only [Act.put, List.setIfInBounds_toArray, List.set_cons_zero, List.set_cons_succ]
            -- 2: slot 72
            refine wpG_take preGr (i := 2) (v := ?_) (by kernel_rfl) (some 72) (by kernel_rfl) rfl (by kernel_rfl) (by kernel_rfl) (by kernel_rfl) (fun _ _ _ h => h) (by rfl) (fun w' hw' => ?_) rfl ?_
            rotate_left
            · try (have hxx := HP.out.gr (Gr.trans HC.out hw'); have hq2 := cells2 hxx.both; obtain ⟨k0, k1⟩ := hq2; clear hxx)
              go_simp
              with_reducible rfl
            simp only [Act.put, List.setIfInBounds_toArray, List.set_cons_zero, List.set_cons_succ]
            -- 3: slot 73
            refine wpG_take preGr (i := 3) (v := ?_) (by kernel_rfl) (some 73) (by kernel_rfl) rfl (by kernel_rfl) (by kernel_rfl) (by kernel_rfl) (fun _ _ _ h => h) (by rfl) (fun w' hw' => ?_) rfl ?_
            rotate_left
            · try (have hxx := HP.out.gr (Gr.trans HC.out hw'); have hq2 := cells2 hxx.both; obtain ⟨k0, k1⟩ := hq2; clear hxx)
              go_simp
              with_reducible rfl
            simp only [Act.put, List.setIfInBounds_toArray, List.set_cons_zero, List.set_cons_succ]
            -- 5: slot 75
            refine wpG_take preGr (i := 5) (v := ?_) (by kernel_rfl) (some 75) (by kernel_rfl) rfl (by kernel_rfl) (by kernel_rfl) (by kernel_rfl) (fun _ _ _ h => h) (by rfl) (fun w' hw' => ?_) rfl ?_
            rotate_left
            · try (have hxx := HP.out.gr (Gr.trans HC.out hw'); have hq2 := cells2 hxx.both; obtain ⟨k0, k1⟩ := hq2; clear hxx)
              go_simp
              with_reducible rfl
            simp only [Act.put, List.setIfInBounds_toArray, List.set_cons_zero, List.set_cons_succ]
            -- 6: slot 76
            refine wpG_take preGr (i := 6) (v := ?_) (by kernel_rfl) (some 76) (by kernel_rfl) rfl (by kernel_rfl) (by kernel_rfl) (by kernel_rfl) (fun _ _ _ h => h) (by rfl) (fun w' hw' => ?_) rfl ?_
            rotate_left
            · try (have hxx := HP.out.gr (Gr.trans HC.out hw'); have hq2 := cells2 hxx.both; obtain ⟨k0, k1⟩ := hq2; clear hxx)
              go_simp
              with_reducible rfl
            simp only [Act.put, List.setIfInBounds_toArray, List.set_cons_zero, List.set_cons_succ]
            -- 7: slot 77
            refine wpG_take preGr (i := 7) (v := ?_) (by kernel_rfl) (some 77) (by kernel_rfl) rfl (by kernel_rfl) (by kernel_rfl) (by kernel_rfl) (fun _ _ _ h => h) (by rfl) (fun w' hw' => ?_) rfl ?_
            rotate_left
            · try (have hxx := HP.out.gr (Gr.trans HC.out hw'); have hq2 := cells2 hxx.both; obtain ⟨k0, k1⟩ := hq2; clear hxx)
              go_simp
              with_reducible rfl
            simp only [Act.put, List.setIfInBounds_toArray, List.set_cons_zero, List.set_cons_succ]
            -- 8: slot 78
            refine wpG_take preGr (i := 8) (v := ?_) (by kernel_rfl) (some 78) (by kernel_rfl) rfl (by kernel_rfl) (by kernel_rfl) (by kernel_rfl) (fun _ _ _ h => h) (by rfl) (fun w' hw' => ?_) rfl ?_
            rotate_left
            · try (have hxx := HP.out.gr (Gr.trans HC.out hw'); have hq2 := cells2 hxx.both; obtain ⟨k0, k1⟩ := hq2; clear hxx)
              go_simp
              with_reducible rfl
            simp only [Act.put, List.setIfInBounds_toArray, List.set_cons_zero, List.set_cons_succ]
            refine wpG_one (i := 4) rfl (by kernel_rfl) (by rfl) ?_
            go_simp
            refine (taken_la (HP.out.gr HC.out).la).mono ?_
            rintro e wn ⟨A, C, rfl, _, _, _, hb⟩
            refine ⟨hb, ?_⟩
            try (have HRR' := Lib.hid (Rd.below HRR.out hb); clear HRR; have HRR := HRR'; clear HRR')
            have HC' : Hid (Gr w3 wn) := Gr.trans HC.out hb
            clear HC hb
            have HC := HC'
            clear HC'
            obtain ⟨wc, hwc⟩ : ∃ x, x = wn := ⟨_, rfl⟩
            subst hwc
            try simp only [Act.put, List.setIfInBounds_toArray, List.set_cons_zero, List.set_cons_succ]
            refine wpG_one (i := 9) rfl (by kernel_rfl) (by rfl) ?_
            go_simp
            refine (resting_la (HP.out.gr HC.out).la).mono ?_
            rintro e wn ⟨A2, C2, rfl, _, hrr, _, hb⟩
            refine ⟨hb, ?_⟩
            have HRR : Hid (RR wn (.slice A2 S2.rest.length C2) S2.rest) := hrr
            have HC' : Hid (Gr w3 wn) := Gr.trans HC.out hb
            clear HC hb hrr
            have HC := HC'
            clear HC'
            obtain ⟨wc, hwc⟩ : ∃ x, x = wn := ⟨_, rfl⟩
            subst hwc
            try simp only [Act.put, List.setIfInBounds_toArray, List.set_cons_zero, List.set_cons_succ]
            -- 10: slot 12
            refine wpG_take preGr (i := 10) (v := ?_) (by kernel_rfl) (some 12) (by kernel_rfl) rfl (by kernel_rfl) (by kernel_rfl) (by kernel_rfl) (fun _ _ _ h => h) (by rfl) (fun w' hw' => ?_) rfl ?_
            rotate_left
            · try (have hxx := HP.out.gr (Gr.trans HC.out hw'); have hq2 := cells2 hxx.both; obtain ⟨k0, k1⟩ := hq2; clear hxx)
              go_simp
              with_reducible rfl
            simp only [Act.put, List.setIfInBounds_toArray, List.set_cons_zero, List.set_cons_succ]
            -- 11: slot 13
            refine wpG_take preGr (i := 11) (v := ?_) (by kernel_rfl) (some 13) (by kernel_rfl) rfl (by kernel_rfl) (by kernel_rfl) (by kernel_rfl) (fun _ _ _ h => h) (by rfl) (fun w' hw' => ?_) rfl ?_
            rotate_left
            · try (have hxx := HP.out.gr (Gr.trans HC.out hw'); have hq2 := cells2 hxx.both; obtain ⟨k0, k1⟩ := hq2; clear hxx)
              go_simp
              with_reducible rfl
            simp only [Act.put, List.setIfInBounds_toArray, List.set_cons_zero, List.set_cons_succ]
            refine wpG_done (by kernel_rfl) ?_ _
            go_wp2_with fail
            go_meet
            exact ⟨A, C, A2, C2, rfl, rfl, HP.out.gr HC.out, HRR⟩
          case rest =>
            obtain ⟨A, C, A2, C2, hs12, hs13, HP4, HRR4⟩ := hcut
            subst hs12 hs13
            obtain ⟨w4, hw4⟩ : ∃ x, x = wc := ⟨_, rfl⟩
            subst hw4
            clear HP
            have hlen : S2.rest.length ≤ 13 ∧ S2.used.length ≤ 13 := by
              have h1 := HP4.out.la.al.ok.sum
              have h2 := HF.out
              rw [HP4.out.low, HP4.out.high] at h1
              omega
            obtain ⟨M, hM⟩ : ∃ M, M = S2.rest.length := ⟨_, rfl⟩
            obtain ⟨K, hK⟩ : ∃ K, K = S2.used.length := ⟨_, rfl⟩
            rw [← hM] at HRR4 hlen ⊢
            rw [← hK] at hlen ⊢
            have HM := Lib.hid hM
            have HK := Lib.hid hK
            have HLEN := Lib.hid hlen
            clear hM hK
            go_wp2_with fail
            go_loopw [14, 15] (fun rv kv wx => ∃ k : Nat, k ≤ M ∧ kv = .int .i64 (k : Int) ∧ rv = .int .i64 ((((S2.rest.take k).filter (ready topT)).length : Nat) : Int) ∧ PS W gb g gd m2 wx S2 lo F ∧ RR wx (.slice A2 M C2) S2.rest) (fun _ kv _ => M - (intOf kv).toNat)
            case atStart => exact ⟨0, Nat.zero_le _, rfl, by simp, HP4.out, HRR4.out⟩
            case round =>
              clear HP4 HRR4
              obtain ⟨k, hk, rfl, rfl, hp, hrr⟩ := hrel
              have HP := Lib.hid hp
              have HRR := Lib.hid hrr
              clear hp hrr
              by_cases hkM : k < M
              · have hkl : k < S2.rest.length := by rw [← HM.out]; exact hkM
                have hrr0 := HRR.out
                rw [HM.out] at hrr0
                obtain ⟨b2, o2, ea2, hb2l, hcel2⟩ := RR.cells hrr0 (by omega)
                subst ea2
                clear hrr0
                have HRC : Hid (∀ w' : World, RR w' (.slice (some ⟨b2, o2, none⟩) M C2) S2.rest → ∀ (j : Nat) (hj : j < S2.rest.length), w'.cell? ⟨b2, o2 + j * 2, none⟩ = some (.int .i64 S2.rest[j].1) ∧ w'.cell? ⟨b2, o2 + j * 2 + 1, none⟩ = some (.int .i64 S2.rest[j].2)) := fun w' hw j hj => by
                  rw [HM.out] at hw
                  obtain ⟨b3, o3, e3, _, h3⟩ := RR.cells hw (by omega)
                  simp only [Option.some.injEq, Addr.mk.injEq] at e3
                  obtain ⟨rfl, rfl, _⟩ := e3
                  exact h3 j hj
                obtain ⟨z, hz⟩ : ∃ z, z = S2.rest[k] := ⟨_, rfl⟩
                have HZ := Lib.hid hz
                have HZN : Hid (z.1 ∉ S2.used) := (HP.out.la.al.ok.rest_mem (List.mem_map.2 ⟨z, by rw [hz]; exact List.getElem_mem hkl, rfl⟩)).2.2
                have HASF : Hid (∀ w' : World, PS W gb g gd m2 w' S2 lo F → Calls Try.prog 15 #[.pointer (some ⟨g, 0, none⟩), .int .i64 z.1] w' fun e w2 => e = .returned (.bool false) ∧ Below w'.heap.size w' w2) := fun w' h => by
                  have := has_any g z.1 w' h.la.al
                  rw [decide_eq_false HZN.out] at this
                  exact this
                have HCK : Hid (∀ w' : World, RR w' (.slice (some ⟨b2, o2, none⟩) M C2) S2.rest → w'.cell? ⟨b2, o2 + k * 2, none⟩ = some (.int .i64 z.1) ∧ w'.cell? ⟨b2, o2 + k * 2 + 1, none⟩ = some (.int .i64 z.2)) := fun w' hw => by
                  have := HRC.out w' hw k hkl
                  rw [← HZ.out] at this
                  exact this
                have hkb : (k : Int) < 14 := by have := HLEN.out; omega
                clear hz hb2l hcel2
                go_upto_region 17 with fail
                have HC : Hid (Gr wr wr.drew) := Gr.drew wr
                refine wp_region_G 9 Gr (by kernel_rfl) ?_
                generalize wr.drew = wc at HC ⊢
                -- 0: slot 86
                refine wpG_take preGr (i := 0) (v := ?_) (by kernel_rfl) (some 86) (by kernel_rfl) rfl (by kernel_rfl) (by kernel_rfl) (by kernel_rfl) (fun _ _ _ h => h) (by rfl) (fun w' hw' => ?_) rfl ?_
                rotate_left
                · try (have hq2 := cells2 (HP.out.gr (Gr.trans HC.out hw')).both; obtain ⟨k0, k1⟩ := hq2; have hq3 := HCK.out _ (Rd.below HRR.out (Gr.trans HC.out hw')); obtain ⟨c0, c1⟩ := hq3)
                  go_simp
                  with_reducible rfl
                simp only [Act.put, List.setIfInBounds_toArray, List.set_cons_zero, List.set_cons_succ]
                -- 1: slot 87
                refine wpG_take preGr (i := 1) (v := ?_) (by kernel_rfl) (some 87) (by kernel_rfl) rfl (by kernel_rfl) (by kernel_rfl) (by kernel_rfl) (fun _ _ _ h => h) (by rfl) (fun w' hw' => ?_) rfl ?_
                rotate_left
                · try (have hq2 := cells2 (HP.out.gr (Gr.trans HC.out hw')).both; obtain ⟨k0, k1⟩ := hq2; have hq3 := HCK.out _ (Rd.below HRR.out (Gr.trans HC.out hw')); obtain ⟨c0, c1⟩ := hq3)
                  go_simp
                  with_reducible rfl
                simp only [Act.put, List.setIfInBounds_toArray, List.set_cons_zero, List.set_cons_succ]
                -- 2: slot 88
                refine wpG_take preGr (i := 2) (v := ?_) (by kernel_rfl) (some 88) (by kernel_rfl) rfl (by kernel_rfl) (by kernel_rfl) (by kernel_rfl) (fun _ _ _ h => h) (by rfl) (fun w' hw' => ?_) rfl ?_
                rotate_left
                · try (have hq2 := cells2 (HP.out.gr (Gr.trans HC.out hw')).both; obtain ⟨k0, k1⟩ := hq2; have hq3 := HCK.out _ (Rd.below HRR.out (Gr.trans HC.out hw')); obtain ⟨c0, c1⟩ := hq3)
                  go_simp
                  with_reducible rfl
                simp only [Act.put, List.setIfInBounds_toArray, List.set_cons_zero, List.set_cons_succ]
                -- 3: slot 89
                refine wpG_take preGr (i := 3) (v := ?_) (by kernel_rfl) (some 89) (by kernel_rfl) rfl (by kernel_rfl) (by kernel_rfl) (by kernel_rfl) (fun _ _ _ h => h) (by rfl) (fun w' hw' => ?_) rfl ?_
                rotate_left
                · try (have hq2 := cells2 (HP.out.gr (Gr.trans HC.out hw')).both; obtain ⟨k0, k1⟩ := hq2; have hq3 := HCK.out _ (Rd.below HRR.out (Gr.trans HC.out hw')); obtain ⟨c0, c1⟩ := hq3)
                  go_simp
                  with_reducible rfl
                simp only [Act.put, List.setIfInBounds_toArray, List.set_cons_zero, List.set_cons_succ]
                -- 4: slot 90
                refine wpG_take preGr (i := 4) (v := ?_) (by kernel_rfl) (some 90) (by kernel_rfl) rfl (by kernel_rfl) (by kernel_rfl) (by kernel_rfl) (fun _ _ _ h => h) (by rfl) (fun w' hw' => ?_) rfl ?_
                rotate_left
                · try (have hq2 := cells2 (HP.out.gr (Gr.trans HC.out hw')).both; obtain ⟨k0, k1⟩ := hq2; have hq3 := HCK.out _ (Rd.below HRR.out (Gr.trans HC.out hw')); obtain ⟨c0, c1⟩ := hq3)
                  go_simp
                  with_reducible rfl
                simp only [Act.put, List.setIfInBounds_toArray, List.set_cons_zero, List.set_cons_succ]
                -- 5: slot 91
                refine wpG_take preGr (i := 5) (v := ?_) (by kernel_rfl) (some 91) (by kernel_rfl) rfl (by kernel_rfl) (by kernel_rfl) (by kernel_rfl) (fun _ _ _ h => h) (by rfl) (fun w' hw' => ?_) rfl ?_
                rotate_left
                · try (have hq2 := cells2 (HP.out.gr (Gr.trans HC.out hw')).both; obtain ⟨k0, k1⟩ := hq2; have hq3 := HCK.out _ (Rd.below HRR.out (Gr.trans HC.out hw')); obtain ⟨c0, c1⟩ := hq3)
                  go_simp
                  with_reducible rfl
                simp only [Act.put, List.setIfInBounds_toArray, List.set_cons_zero, List.set_cons_succ]
                -- 6: slot 92
                refine wpG_take preGr (i := 6) (v := ?_) (by kernel_rfl) (some 92) (by kernel_rfl) rfl (by kernel_rfl) (by kernel_rfl) (by kernel_rfl) (fun _ _ _ h => h) (by rfl) (fun w' hw' => ?_) rfl ?_
                rotate_left
                · try (have hq2 := cells2 (HP.out.gr (Gr.trans HC.out hw')).both; obtain ⟨k0, k1⟩ := hq2; have hq3 := HCK.out _ (Rd.below HRR.out (Gr.trans HC.out hw')); obtain ⟨c0, c1⟩ := hq3)
                  go_simp
                  with_reducible rfl
                simp only [Act.put, List.setIfInBounds_toArray, List.set_cons_zero, List.set_cons_succ]
                -- 7: slot 93
                refine wpG_take preGr (i := 7) (v := ?_) (by kernel_rfl) (some 93) (by kernel_rfl) rfl (by kernel_rfl) (by kernel_rfl) (by kernel_rfl) (fun _ _ _ h => h) (by rfl) (fun w' hw' => ?_) rfl ?_
                rotate_left
                · try (have hq2 := cells2 (HP.out.gr (Gr.trans HC.out hw')).both; obtain ⟨k0, k1⟩ := hq2; have hq3 := HCK.out _ (Rd.below HRR.out (Gr.trans HC.out hw')); obtain ⟨c0, c1⟩ := hq3)
                  go_simp
                  with_reducible rfl
                simp only [Act.put, List.setIfInBounds_toArray, List.set_cons_zero, List.set_cons_succ]
                -- 8: slot 94
                refine wpG_take preGr (i := 8) (v := ?_) (by kernel_rfl) (some 94) (by kernel_rfl) rfl (by kernel_rfl) (by kernel_rfl) (by kernel_rfl) (fun _ _ _ h => h) (by rfl) (fun w' hw' => ?_) rfl ?_
                rotate_left
                · try (have hq2 := cells2 (HP.out.gr (Gr.trans HC.out hw')).both; obtain ⟨k0, k1⟩ := hq2; have hq3 := HCK.out _ (Rd.below HRR.out (Gr.trans HC.out hw')); obtain ⟨c0, c1⟩ := hq3)
                  go_simp
                  with_reducible rfl
                simp only [Act.put, List.setIfInBounds_toArray, List.set_cons_zero, List.set_cons_succ]
                refine wpG_tail (i := 9) (by decide) rfl (by kernel_rfl) (by rfl) ?_
                go_simp
                refine (HASF.out wc (HP.out.gr HC.out)).mono ?_
                rintro e w5 ⟨rfl, hb⟩
                have HP5 := Lib.hid ((HP.out.gr HC.out).gr hb)
                have HRR5 : Hid (RR w5 (.slice (some ⟨b2, o2, none⟩) M C2) S2.rest) := Rd.below HRR.out (Gr.trans HC.out hb)
                clear hb
                try simp only [Act.put, List.setIfInBounds_toArray, List.set_cons_zero, List.set_cons_succ]
                refine wpG_done (by kernel_rfl) ?_ _
                clear HP HRR HASF HC
                obtain ⟨c0, c1⟩ := HCK.out _ HRR5.out
                obtain ⟨cn, hcn⟩ : ∃ cn, cn = ((S2.rest.take k).filter (ready topT)).length := ⟨_, rfl⟩
                have hcb : cn ≤ 13 := by rw [hcn]; refine Nat.le_trans (List.length_filter_le _ _) ?_; rw [List.length_take]; have := HLEN.out; omega
                obtain ⟨cm, hcm⟩ : ∃ cm, cm = ((S2.rest.take (k + 1)).filter (ready topT)).length := ⟨_, rfl⟩
                have hcmn : cm = cn + if z.2 ≤ 1099511627776 then 1 else 0 := by
                  rw [hcm, filter_take_succ _ _ _ hkl, List.length_append, ← hcn, ← HZ.out]
                  unfold ready topT
                  by_cases hz2 : z.2 ≤ 1099511627776
                  · simp [hz2]
                  · simp [hz2]
                rw [← hcn]
                have HCM := Lib.hid hcm
                have HCMN := Lib.hid hcmn
                clear hcn hcm hcmn
                go_upto_if 101 with fail
                go_cut [14, 101] (fun s14 _ wx => s14 = .int .i64 (cm : Int) ∧ wx = w5)
                case first =>
                  by_cases hz2 : z.2 ≤ 1099511627776
                  · have HE : Hid (((cm : Nat) : Int) = (cn : Int) + 1) := by show _ = _; rw [HCMN.out, if_pos hz2]; omega
                    go_wp2_with fail
                    go_meet
                    exact ⟨by rw [HE.out], rfl⟩
                  · have HE : Hid (((cm : Nat) : Int) = (cn : Int)) := by show _ = _; rw [HCMN.out, if_neg hz2]; omega
                    go_wp2_with fail
                    go_meet
                    exact ⟨by rw [HE.out], rfl⟩
                case rest =>
                  obtain ⟨hs14, hwc⟩ := hcut
                  subst hs14 hwc
                  obtain ⟨w6, hw6⟩ : ∃ x, x = wc := ⟨_, rfl⟩
                  subst hw6
                  clear c0 c1
                  go_wp2_with fail
                  go_loopw [16] (fun jv wy => ∃ j : Nat, j ≤ k ∧ jv = .int .i64 (j : Int) ∧ PS W gb g gd m2 wy S2 lo F ∧ RR wy (.slice (some ⟨b2, o2, none⟩) M C2) S2.rest) (fun jv _ => k - (intOf jv).toNat)
                  case atStart => exact ⟨0, Nat.zero_le _, rfl, HP5.out, HRR5.out⟩
                  case round =>
                    clear HP5 HRR5
                    obtain ⟨j, hj, rfl, hp, hrr⟩ := hrel
                    have HP := Lib.hid hp
                    have HRR := Lib.hid hrr
                    clear hp hrr
                    by_cases hjk : j < k
                    · have hjl : j < S2.rest.length := by omega
                      obtain ⟨y, hy⟩ : ∃ y, y = S2.rest[j] := ⟨_, rfl⟩
                      have hyz : (y.1 == z.1) = false := by
                        rw [beq_eq_false_iff_ne, hy, HZ.out]
                        intro e
                        have hn := HP.out.la.al.ok.rest_nodup
                        have h1 : (S2.rest.map (·.1))[j]'(by simpa using hjl) = (S2.rest.map (·.1))[k]'(by simpa using hkl) := by simpa using e
                        exact List.pairwise_iff_getElem.1 hn j k (by simpa using hjl) (by simpa using hkl) hjk h1
                      have HYC : Hid (∀ w' : World, RR w' (.slice (some ⟨b2, o2, none⟩) M C2) S2.rest → w'.cell? ⟨b2, o2 + j * 2, none⟩ = some (.int .i64 y.1)) := fun w' hw => by
                        have := (HRC.out w' hw j hjl).1
                        rw [← hy] at this
                        exact this
                      have hjM : (j : Int) < (M : Int) := by omega
                      have hkMi : (k : Int) < (M : Int) := by omega
                      clear hy hjl
                      go_upto_region 24 with fail
                      have HC : Hid (Gr wr wr.drew) := Gr.drew wr
                      refine wp_region_G 11 Gr (by kernel_rfl) ?_
                      generalize wr.drew = wc at HC ⊢
                      -- 0: slot 109
                      refine wpG_take preGr (i := 0) (v := ?_) (by kernel_rfl) (some 109) (by kernel_rfl) rfl (by kernel_rfl) (by kernel_rfl) (by kernel_rfl) (fun _ _ _ h => h) (by rfl) (fun w' hw' => ?_) rfl ?_
                      rotate_left
                      · try (have hr7 := Rd.below HRR.out (Gr.trans HC.out hw'); have hq3 := HCK.out _ hr7; obtain ⟨c0, c1⟩ := hq3; have hq4 := HYC.out _ hr7; clear hr7)
                        go_simp
                        with_reducible rfl
                      simp only [Act.put, List.setIfInBounds_toArray, List.set_cons_zero, List.set_cons_succ]
                      -- 1: slot 110
                      refine wpG_take preGr (i := 1) (v := ?_) (by kernel_rfl) (some 110) (by kernel_rfl) rfl (by kernel_rfl) (by kernel_rfl) (by kernel_rfl) (fun _ _ _ h => h) (by rfl) (fun w' hw' => ?_) rfl ?_
                      rotate_left
                      · try (have hr7 := Rd.below HRR.out (Gr.trans HC.out hw'); have hq3 := HCK.out _ hr7; obtain ⟨c0, c1⟩ := hq3; have hq4 := HYC.out _ hr7; clear hr7)
                        go_simp
                        with_reducible rfl
                      simp only [Act.put, List.setIfInBounds_toArray, List.set_cons_zero, List.set_cons_succ]
                      -- 2: slot 111
                      refine wpG_take preGr (i := 2) (v := ?_) (by kernel_rfl) (some 111) (by kernel_rfl) rfl (by kernel_rfl) (by kernel_rfl) (by kernel_rfl) (fun _ _ _ h => h) (by rfl) (fun w' hw' => ?_) rfl ?_
                      rotate_left
                      · try (have hr7 := Rd.below HRR.out (Gr.trans HC.out hw'); have hq3 := HCK.out _ hr7; obtain ⟨c0, c1⟩ := hq3; have hq4 := HYC.out _ hr7; clear hr7)
                        go_simp
                        with_reducible rfl
                      simp only [Act.put, List.setIfInBounds_toArray, List.set_cons_zero, List.set_cons_succ]
                      -- 3: slot 112
                      refine wpG_take preGr (i := 3) (v := ?_) (by kernel_rfl) (some 112) (by kernel_rfl) rfl (by kernel_rfl) (by kernel_rfl) (by kernel_rfl) (fun _ _ _ h => h) (by rfl) (fun w' hw' => ?_) rfl ?_
                      rotate_left
                      · try (have hr7 := Rd.below HRR.out (Gr.trans HC.out hw'); have hq3 := HCK.out _ hr7; obtain ⟨c0, c1⟩ := hq3; have hq4 := HYC.out _ hr7; clear hr7)
                        go_simp
                        with_reducible rfl
                      simp only [Act.put, List.setIfInBounds_toArray, List.set_cons_zero, List.set_cons_succ]
                      -- 4: slot 113
                      refine wpG_take preGr (i := 4) (v := ?_) (by kernel_rfl) (some 113) (by kernel_rfl) rfl (by kernel_rfl) (by kernel_rfl) (by kernel_rfl) (fun _ _ _ h => h) (by rfl) (fun w' hw' => ?_) rfl ?_
                      rotate_left
                      · try (have hr7 := Rd.below HRR.out (Gr.trans HC.out hw'); have hq3 := HCK.out _ hr7; obtain ⟨c0, c1⟩ := hq3; have hq4 := HYC.out _ hr7; clear hr7)
                        go_simp
                        with_reducible rfl
                      simp only [Act.put, List.setIfInBounds_toArray, List.set_cons_zero, List.set_cons_succ]
                      -- 5: slot 114
                      refine wpG_take preGr (i := 5) (v := ?_) (by kernel_rfl) (some 114) (by kernel_rfl) rfl (by kernel_rfl) (by kernel_rfl) (by kernel_rfl) (fun _ _ _ h => h) (by rfl) (fun w' hw' => ?_) rfl ?_
                      rotate_left
                      · try (have hr7 := Rd.below HRR.out (Gr.trans HC.out hw'); have hq3 := HCK.out _ hr7; obtain ⟨c0, c1⟩ := hq3; have hq4 := HYC.out _ hr7; clear hr7)
                        go_simp
                        with_reducible rfl
                      simp only [Act.put, List.setIfInBounds_toArray, List.set_cons_zero, List.set_cons_succ]
                      -- 6: slot 115
                      refine wpG_take preGr (i := 6) (v := ?_) (by kernel_rfl) (some 115) (by kernel_rfl) rfl (by kernel_rfl) (by kernel_rfl) (by kernel_rfl) (fun _ _ _ h => h) (by rfl) (fun w' hw' => ?_) rfl ?_
                      rotate_left
                      · try (have hr7 := Rd.below HRR.out (Gr.trans HC.out hw'); have hq3 := HCK.out _ hr7; obtain ⟨c0, c1⟩ := hq3; have hq4 := HYC.out _ hr7; clear hr7)
                        go_simp
                        with_reducible rfl
                      simp only [Act.put, List.setIfInBounds_toArray, List.set_cons_zero, List.set_cons_succ]
                      -- 7: slot 116
                      refine wpG_take preGr (i := 7) (v := ?_) (by kernel_rfl) (some 116) (by kernel_rfl) rfl (by kernel_rfl) (by kernel_rfl) (by kernel_rfl) (fun _ _ _ h => h) (by rfl) (fun w' hw' => ?_) rfl ?_
                      rotate_left
                      · try (have hr7 := Rd.below HRR.out (Gr.trans HC.out hw'); have hq3 := HCK.out _ hr7; obtain ⟨c0, c1⟩ := hq3; have hq4 := HYC.out _ hr7; clear hr7)
                        go_simp
                        with_reducible rfl
                      simp only [Act.put, List.setIfInBounds_toArray, List.set_cons_zero, List.set_cons_succ]
                      -- 8: slot 117
                      refine wpG_take preGr (i := 8) (v := ?_) (by kernel_rfl) (some 117) (by kernel_rfl) rfl (by kernel_rfl) (by kernel_rfl) (by kernel_rfl) (fun _ _ _ h => h) (by rfl) (fun w' hw' => ?_) rfl ?_
                      rotate_left
                      · try (have hr7 := Rd.below HRR.out (Gr.trans HC.out hw'); have hq3 := HCK.out _ hr7; obtain ⟨c0, c1⟩ := hq3; have hq4 := HYC.out _ hr7; clear hr7)
                        go_simp
                        with_reducible rfl
                      simp only [Act.put, List.setIfInBounds_toArray, List.set_cons_zero, List.set_cons_succ]
                      -- 9: slot 118
                      refine wpG_take preGr (i := 9) (v := ?_) (by kernel_rfl) (some 118) (by kernel_rfl) rfl (by kernel_rfl) (by kernel_rfl) (by kernel_rfl) (fun _ _ _ h => h) (by rfl) (fun w' hw' => ?_) rfl ?_
                      rotate_left
                      · try (have hr7 := Rd.below HRR.out (Gr.trans HC.out hw'); have hq3 := HCK.out _ hr7; obtain ⟨c0, c1⟩ := hq3; have hq4 := HYC.out _ hr7; clear hr7)
                        go_simp
                        with_reducible rfl
                      simp only [Act.put, List.setIfInBounds_toArray, List.set_cons_zero, List.set_cons_succ]
                      -- 10: slot 119
                      refine wpG_take preGr (i := 10) (v := ?_) (by kernel_rfl) (some 119) (by kernel_rfl) rfl (by kernel_rfl) (by kernel_rfl) (by kernel_rfl) (fun _ _ _ h => h) (by rfl) (fun w' hw' => ?_) rfl ?_
                      rotate_left
                      · try (have hr7 := Rd.below HRR.out (Gr.trans HC.out hw'); have hq3 := HCK.out _ hr7; obtain ⟨c0, c1⟩ := hq3; have hq4 := HYC.out _ hr7; clear hr7)
                        go_simp
                        with_reducible rfl
                      simp only [Act.put, List.setIfInBounds_toArray, List.set_cons_zero, List.set_cons_succ]
                      refine wpG_done (by kernel_rfl) ?_ _
                      have HP7 := Lib.hid (HP.out.gr HC.out)
                      have HRR7 : Hid (RR wc (.slice (some ⟨b2, o2, none⟩) M C2) S2.rest) := Rd.below HRR.out HC.out
                      clear HP HRR HC
                      go_wp2_with fail
                      go_roundw
                      case rel =>
                        have hle : j + 1 ≤ k := by omega
                        first
                          | exact ⟨j + 1, hle, by go_num, HP7.out, HRR7.out⟩
                          | ((repeat apply Exists.intro); exact ⟨⟨j + 1, hle, by go_num, HP7.out, HRR7.out⟩, rfl⟩)
                      case measure =>
                        simp [intOf]
                        omega
                    · go_wp2_with fail
                      go_roundw
                      case rel =>
                        have hle : k + 1 ≤ M := by omega
                        first
                          | exact ⟨k + 1, hle, by go_num, by rw [HCM.out], HP.out, HRR.out⟩
                          | ((repeat apply Exists.intro); exact ⟨⟨k + 1, hle, by go_num, by rw [HCM.out], HP.out, HRR.out⟩, rfl⟩)
                      case measure =>
                        simp [intOf]
                        omega
              · have hke : k = M := by omega
                subst hke
                have hkk : ¬ (k : Int) < (k : Int) := by omega
                have HFS : Hid (free S2 topT - (((S2.rest.take k).filter (ready topT)).length : Nat) + (k : Int) + (K : Int) = S2.high - S2.low + 1) := by
                  have := free_sum HP.out.la.al.ok
                  show _ = _
                  rw [List.take_of_length_le (by rw [← HM.out]; exact Nat.le_refl _), HM.out, HK.out]
                  exact this
                obtain ⟨cn, hcn⟩ : ∃ cn, cn = ((S2.rest.take k).filter (ready topT)).length := ⟨_, rfl⟩
                rw [← hcn] at HFS ⊢
                obtain ⟨fr, hfr⟩ : ∃ fr, fr = free S2 topT := ⟨_, rfl⟩
                obtain ⟨ln, hln⟩ : ∃ ln, ln = S2.high - S2.low + 1 := ⟨_, rfl⟩
                rw [← hfr, ← hln] at HFS
                have hcb : cn ≤ 13 := by rw [hcn]; refine Nat.le_trans (List.length_filter_le _ _) ?_; rw [List.length_take]; have := HLEN.out; omega
                have hlb : 0 ≤ ln ∧ ln ≤ 13 := by
                  have h2 := HF.out
                  have h3 := HP.out.la.al.ok.set.2.2.1
                  rw [HP.out.low, HP.out.high] at hln
                  rw [HP.out.low, HP.out.high] at h3
                  omega
                have hKb : K ≤ 13 := HLEN.out.2
                have hMb : k ≤ 13 := HLEN.out.1
                have hfs := HFS.out
                have Y1 : Hid (wrap64 (fr - (cn : Int)) = fr - (cn : Int)) := wrap64_in (by omega) (by omega)
                have Y2 : Hid (wrap64 (fr - (cn : Int) + (k : Int)) = fr - (cn : Int) + (k : Int)) := wrap64_in (by omega) (by omega)
                have Y3 : Hid (wrap64 (fr - (cn : Int) + (k : Int) + (K : Int)) = ln) := by show _ = _; rw [wrap64_in (by omega) (by omega)]; exact hfs
                have Y4 : Hid (IntKind.i64.wrap (fr - (cn : Int)) = fr - (cn : Int)) := IntWalk.i64_in _ (by omega)
                have Y5 : Hid (IntKind.i64.wrap (fr - (cn : Int) + (k : Int)) = fr - (cn : Int) + (k : Int)) := IntWalk.i64_in _ (by omega)
                have Y6 : Hid (IntKind.i64.wrap (fr - (cn : Int) + (k : Int) + (K : Int)) = ln) := by show _ = _; rw [show IntKind.i64.wrap (fr - (cn : Int) + (k : Int) + (K : Int)) = fr - (cn : Int) + (k : Int) + (K : Int) from IntWalk.i64_in _ (by omega)]; exact hfs
                have HFC : Hid (∀ w', Gr wr w' → Calls Try.prog 16 #[.pointer (some ⟨g, 0, none⟩), .int .i64 1099511627776] w' fun e w2 => e = .returned (.int .i64 fr) ∧ Below w'.heap.size w' w2) := fun w' hw => by
                  have := free_any g topT w' (HP.out.gr hw).la.al
                  rw [← hfr] at this
                  exact this
                have HLC : Hid (∀ w', Gr wr w' → Calls Try.prog 21 #[.pointer (some ⟨g, 0, none⟩)] w' fun e w2 => e = .returned (.int .i64 ln) ∧ w' = w2) := fun w' hw => by
                  have := len_any g w' (HP.out.gr hw).la.al
                  rw [← hln] at this
                  exact this
                clear hcn hfr hln hcb hlb hKb hMb hfs hkk HFS
                go_upto_region 26 with fail
                have HC : Hid (Gr wr wr.drew) := Gr.drew wr
                refine wp_region_G 19 Gr (by kernel_rfl) ?_
                generalize wr.drew = wc at HC ⊢
                have y4 := Y4.out
                have y5 := Y5.out
                have y6 := Y6.out
                -- 0: slot 120
                refine wpG_take preGr (i := 0) (v := ?_) (by kernel_rfl) (some 120) (by kernel_rfl) rfl (by kernel_rfl) (by kernel_rfl) (by kernel_rfl) (fun _ _ _ h => h) (by rfl) (fun w' hw' => ?_) rfl ?_
                rotate_left
                · try (have hq2 := cells2 (HP.out.gr (Gr.trans HC.out hw')).both; obtain ⟨k0, k1⟩ := hq2)
                  go_simp
                  with_reducible rfl
                simp only [Act.put, List.setIfInBounds_toArray, List.set_cons_zero, List.set_cons_succ]
                -- 1: slot 121
                refine wpG_take preGr (i := 1) (v := ?_) (by kernel_rfl) (some 121) (by kernel_rfl) rfl (by kernel_rfl) (by kernel_rfl) (by kernel_rfl) (fun _ _ _ h => h) (by rfl) (fun w' hw' => ?_) rfl ?_
                rotate_left
                · try (have hq2 := cells2 (HP.out.gr (Gr.trans HC.out hw')).both; obtain ⟨k0, k1⟩ := hq2)
                  go_simp
                  with_reducible rfl
                simp only [Act.put, List.setIfInBounds_toArray, List.set_cons_zero, List.set_cons_succ]
                -- 2: slot 122
                refine wpG_take preGr (i := 2) (v := ?_) (by kernel_rfl) (some 122) (by kernel_rfl) rfl (by kernel_rfl) (by kernel_rfl) (by kernel_rfl) (fun _ _ _ h => h) (by rfl) (fun w' hw' => ?_) rfl ?_
                rotate_left
                · try (have hq2 := cells2 (HP.out.gr (Gr.trans HC.out hw')).both; obtain ⟨k0, k1⟩ := hq2)
                  go_simp
                  with_reducible rfl
                simp only [Act.put, List.setIfInBounds_toArray, List.set_cons_zero, List.set_cons_succ]
                -- 3: slot 123
                refine wpG_take preGr (i := 3) (v := ?_) (by kernel_rfl) (some 123) (by kernel_rfl) rfl (by kernel_rfl) (by kernel_rfl) (by kernel_rfl) (fun _ _ _ h => h) (by rfl) (fun w' hw' => ?_) rfl ?_
                rotate_left
                · try (have hq2 := cells2 (HP.out.gr (Gr.trans HC.out hw')).both; obtain ⟨k0, k1⟩ := hq2)
                  go_simp
                  with_reducible rfl
                simp only [Act.put, List.setIfInBounds_toArray, List.set_cons_zero, List.set_cons_succ]
                -- 5: slot 125
                refine wpG_take preGr (i := 5) (v := ?_) (by kernel_rfl) (some 125) (by kernel_rfl) rfl (by kernel_rfl) (by kernel_rfl) (by kernel_rfl) (fun _ _ _ h => h) (by rfl) (fun w' hw' => ?_) rfl ?_
                rotate_left
                · try (have hq2 := cells2 (HP.out.gr (Gr.trans HC.out hw')).both; obtain ⟨k0, k1⟩ := hq2)
                  go_simp
                  with_reducible rfl
                simp only [Act.put, List.setIfInBounds_toArray, List.set_cons_zero, List.set_cons_succ]
                -- 7: slot 127
                refine wpG_take preGr (i := 7) (v := ?_) (by kernel_rfl) (some 127) (by kernel_rfl) rfl (by kernel_rfl) (by kernel_rfl) (by kernel_rfl) (fun _ _ _ h => h) (by rfl) (fun w' hw' => ?_) rfl ?_
                rotate_left
                · try (have hq2 := cells2 (HP.out.gr (Gr.trans HC.out hw')).both; obtain ⟨k0, k1⟩ := hq2)
                  go_simp
                  with_reducible rfl
                simp only [Act.put, List.setIfInBounds_toArray, List.set_cons_zero, List.set_cons_succ]
                -- 8: slot 128
                refine wpG_take preGr (i := 8) (v := ?_) (by kernel_rfl) (some 128) (by kernel_rfl) rfl (by kernel_rfl) (by kernel_rfl) (by kernel_rfl) (fun _ _ _ h => h) (by rfl) (fun w' hw' => ?_) rfl ?_
                rotate_left
                · try (have hq2 := cells2 (HP.out.gr (Gr.trans HC.out hw')).both; obtain ⟨k0, k1⟩ := hq2)
                  go_simp
                  with_reducible rfl
                simp only [Act.put, List.setIfInBounds_toArray, List.set_cons_zero, List.set_cons_succ]
                -- 10: slot 130
                refine wpG_take preGr (i := 10) (v := ?_) (by kernel_rfl) (some 130) (by kernel_rfl) rfl (by kernel_rfl) (by kernel_rfl) (by kernel_rfl) (fun _ _ _ h => h) (by rfl) (fun w' hw' => ?_) rfl ?_
                rotate_left
                · try (have hq2 := cells2 (HP.out.gr (Gr.trans HC.out hw')).both; obtain ⟨k0, k1⟩ := hq2)
                  go_simp
                  with_reducible rfl
                simp only [Act.put, List.setIfInBounds_toArray, List.set_cons_zero, List.set_cons_succ]
                -- 11: slot 131
                refine wpG_take preGr (i := 11) (v := ?_) (by kernel_rfl) (some 131) (by kernel_rfl) rfl (by kernel_rfl) (by kernel_rfl) (by kernel_rfl) (fun _ _ _ h => h) (by rfl) (fun w' hw' => ?_) rfl ?_
                rotate_left
                · try (have hq2 := cells2 (HP.out.gr (Gr.trans HC.out hw')).both; obtain ⟨k0, k1⟩ := hq2)
                  go_simp
                  with_reducible rfl
                simp only [Act.put, List.setIfInBounds_toArray, List.set_cons_zero, List.set_cons_succ]
                -- 13: slot 133
                refine wpG_take preGr (i := 13) (v := ?_) (by kernel_rfl) (some 133) (by kernel_rfl) rfl (by kernel_rfl) (by kernel_rfl) (by kernel_rfl) (fun _ _ _ h => h) (by rfl) (fun w' hw' => ?_) rfl ?_
                rotate_left
                · try (have hq2 := cells2 (HP.out.gr (Gr.trans HC.out hw')).both; obtain ⟨k0, k1⟩ := hq2)
                  go_simp
                  with_reducible rfl
                simp only [Act.put, List.setIfInBounds_toArray, List.set_cons_zero, List.set_cons_succ]
                -- 14: slot 134
                refine wpG_take preGr (i := 14) (v := ?_) (by kernel_rfl) (some 134) (by kernel_rfl) rfl (by kernel_rfl) (by kernel_rfl) (by kernel_rfl) (fun _ _ _ h => h) (by rfl) (fun w' hw' => ?_) rfl ?_
                rotate_left
                · try (have hq2 := cells2 (HP.out.gr (Gr.trans HC.out hw')).both; obtain ⟨k0, k1⟩ := hq2)
                  go_simp
                  with_reducible rfl
                simp only [Act.put, List.setIfInBounds_toArray, List.set_cons_zero, List.set_cons_succ]
                -- 15: slot 135
                refine wpG_take preGr (i := 15) (v := ?_) (by kernel_rfl) (some 135) (by kernel_rfl) rfl (by kernel_rfl) (by kernel_rfl) (by kernel_rfl) (fun _ _ _ h => h) (by rfl) (fun w' hw' => ?_) rfl ?_
                rotate_left
                · try (have hq2 := cells2 (HP.out.gr (Gr.trans HC.out hw')).both; obtain ⟨k0, k1⟩ := hq2)
                  go_simp
                  with_reducible rfl
                simp only [Act.put, List.setIfInBounds_toArray, List.set_cons_zero, List.set_cons_succ]
                -- 16: slot 136
                refine wpG_take preGr (i := 16) (v := ?_) (by kernel_rfl) (some 136) (by kernel_rfl) rfl (by kernel_rfl) (by kernel_rfl) (by kernel_rfl) (fun _ _ _ h => h) (by rfl) (fun w' hw' => ?_) rfl ?_
                rotate_left
                · try (have hq2 := cells2 (HP.out.gr (Gr.trans HC.out hw')).both; obtain ⟨k0, k1⟩ := hq2)
                  go_simp
                  with_reducible rfl
                simp only [Act.put, List.setIfInBounds_toArray, List.set_cons_zero, List.set_cons_succ]
                refine wpG_one (i := 4) rfl (by kernel_rfl) (by rfl) ?_
                go_simp
                refine (HFC.out wc HC.out).mono ?_
                rintro e wn ⟨rfl, hb⟩
                refine ⟨hb, ?_⟩
                have HC' : Hid (Gr wr wn) := Gr.trans HC.out hb
                clear HC hb
                have HC := HC'
                clear HC'
                obtain ⟨wc, hwc⟩ : ∃ x, x = wn := ⟨_, rfl⟩
                subst hwc
                try simp only [Act.put, List.setIfInBounds_toArray, List.set_cons_zero, List.set_cons_succ]
                -- 6: slot 126
                refine wpG_take preGr (i := 6) (v := ?_) (by kernel_rfl) (some 126) (by kernel_rfl) rfl (by kernel_rfl) (by kernel_rfl) (by kernel_rfl) (fun _ _ _ h => h) (by rfl) (fun w' hw' => ?_) rfl ?_
                rotate_left
                · try (have hq2 := cells2 (HP.out.gr (Gr.trans HC.out hw')).both; obtain ⟨k0, k1⟩ := hq2)
                  go_simp
                  with_reducible rfl
                simp only [Act.put, List.setIfInBounds_toArray, List.set_cons_zero, List.set_cons_succ]
                -- 9: slot 129
                refine wpG_take preGr (i := 9) (v := ?_) (by kernel_rfl) (some 129) (by kernel_rfl) rfl (by kernel_rfl) (by kernel_rfl) (by kernel_rfl) (fun _ _ _ h => h) (by rfl) (fun w' hw' => ?_) rfl ?_
                rotate_left
                · try (have hq2 := cells2 (HP.out.gr (Gr.trans HC.out hw')).both; obtain ⟨k0, k1⟩ := hq2)
                  go_simp
                  with_reducible rfl
                simp only [Act.put, List.setIfInBounds_toArray, List.set_cons_zero, List.set_cons_succ]
                -- 12: slot 132
                refine wpG_take preGr (i := 12) (v := ?_) (by kernel_rfl) (some 132) (by kernel_rfl) rfl (by kernel_rfl) (by kernel_rfl) (by kernel_rfl) (fun _ _ _ h => h) (by rfl) (fun w' hw' => ?_) rfl ?_
                rotate_left
                · try (have hq2 := cells2 (HP.out.gr (Gr.trans HC.out hw')).both; obtain ⟨k0, k1⟩ := hq2)
                  go_simp
                  with_reducible rfl
                simp only [Act.put, List.setIfInBounds_toArray, List.set_cons_zero, List.set_cons_succ]
                refine wpG_one (i := 17) rfl (by kernel_rfl) (by rfl) ?_
                go_simp
                refine (HLC.out wc HC.out).mono ?_
                rintro e wn ⟨rfl, rfl⟩
                refine ⟨Gr.refl _, ?_⟩
                try simp only [Act.put, List.setIfInBounds_toArray, List.set_cons_zero, List.set_cons_succ]
                -- 18: slot 138
                refine wpG_take preGr (i := 18) (v := ?_) (by kernel_rfl) (some 138) (by kernel_rfl) rfl (by kernel_rfl) (by kernel_rfl) (by kernel_rfl) (fun _ _ _ h => h) (by rfl) (fun w' hw' => ?_) rfl ?_
                rotate_left
                · try (have hq2 := cells2 (HP.out.gr (Gr.trans HC.out hw')).both; obtain ⟨k0, k1⟩ := hq2)
                  go_simp
                  with_reducible rfl
                simp only [Act.put, List.setIfInBounds_toArray, List.set_cons_zero, List.set_cons_succ]
                refine wpG_done (by kernel_rfl) ?_ _
                have HP9 := Lib.hid (HP.out.gr HC.out)
                clear y4 y5 y6
                have hll : (ln != ln) = false := by simp
                go_wp2_with fail
                go_roundw
                case rel =>
                  first
                    | exact ⟨i + 1, hle, hle60, by go_num, _, _, HP9.out⟩
                    | ((repeat apply Exists.intro); exact ⟨⟨i + 1, hle, hle60, by go_num, _, _, HP9.out⟩, rfl⟩)
                case measure =>
                  simp [intOf]
                  omega
      · go_wp2
        go_ret
        exact ⟨rfl, HPS.out.la.low⟩
    · go_wp2
      go_ret
      exact ⟨rfl, HPS.out.la.low⟩
theorem own : ownKnob Try.prog.godebug = none := by kernel_rfl
theorem laidOut : laidOutB Try.prog = true := by kernel_rfl
set_option maxRecDepth 100000 in
theorem lifted (os : Os) (started : os.Started) (H : Type) (enc : TypeId × Value → H) :
    ReturnsInHanded {} Try.checked os 6 .any (Rows.idsPartsSpec.pre6 enc Try.prog Try.f6 Rows.idsPartsRow.domain false) (Rows.idsPartsSpec.post enc Try.prog Try.f6 false true false false) := by
  refine returnsInHanded_of_change (C := Try.checked) own started (by kernel_rfl) Try.func6
    (ChangeSpec.witness6 (enc := enc) (C := Try.checked) false ⟨#[], #[.int .i64 0, .int .i64 0, .int .i64 0, .slice none 0 0], []⟩ 8 (by kernel_rfl) (by kernel_rfl) (by kernel_rfl) (by kernel_rfl)) ?_
  intro W base args ds gs before hval0 hW hcnd _
  have hval : ∀ (j : Nat) t v, Try.f6.params[j]? = some t → args[j]? = some v → Value.okWide Try.prog W .any base t v := hval0
  have hW' := hW
  obtain ⟨p, q, hA0, hV, rfl, hfz, hnd⟩ := hW
  have hA : DataW.TrodAll enc Try.prog W 0 (fun _ => true) true Try.f6.params.toList args.toList ds p := hA0
  rw [Try.params6] at hA hval
  obtain ⟨v0, vs0, d0, ds0, p0, q0, hargs, rfl, rfl, h0, r0⟩ := trodAll_cons hA
  obtain ⟨v1, vs1, d1, ds1, p1, q1, rfl, rfl, rfl, h1, r1⟩ := trodAll_cons r0
  obtain ⟨v2, vs2, d2, ds2, p2, q2, rfl, rfl, rfl, h2, r2⟩ := trodAll_cons r1
  obtain ⟨v3, vs3, d3, ds3, p3, q3, rfl, rfl, rfl, h3, r3⟩ := trodAll_cons r2
  obtain ⟨rfl, rfl, rfl⟩ := trodAll_nil r3
  obtain rfl : args = #[v0, v1, v2, v3] := by cases args; simp_all
  obtain ⟨rfl, rfl⟩ := trodVars_none hV
  have k0 := h0
  have lt0 : ∀ x ∈ p0, x.block < W.heap.size := by obtain ⟨m, hm⟩ := k0; exact DataW.trod_lt m _ _ _ hm
  obtain ⟨a0, rfl, rfl, rfl, w0⟩ := open_int Try.underlying3 (hval 0 3 v0 rfl rfl) h0
  have k1 := h1
  have lt1 : ∀ x ∈ p1, x.block < W.heap.size := by obtain ⟨m, hm⟩ := k1; exact DataW.trod_lt m _ _ _ hm
  obtain ⟨a1, rfl, rfl, rfl, w1⟩ := open_int Try.underlying3 (hval 1 3 v1 rfl rfl) h1
  have k2 := h2
  have lt2 : ∀ x ∈ p2, x.block < W.heap.size := by obtain ⟨m, hm⟩ := k2; exact DataW.trod_lt m _ _ _ hm
  obtain ⟨a2, rfl, rfl, rfl, w2⟩ := open_int Try.underlying3 (hval 2 3 v2 rfl rfl) h2
  have k3 := h3
  have lt3 : ∀ x ∈ p3, x.block < W.heap.size := by obtain ⟨m, hm⟩ := k3; exact DataW.trod_lt m _ _ _ hm
  obtain ⟨a3, n3, c3, qs3, rfl, b3⟩ := open_ops Try.underlying22 Try.underlying29 ⟨rfl, rfl, rfl⟩ Try.underlying3 Try.underlying3 Try.underlying3 ⟨by kernel_rfl, by kernel_rfl, by kernel_rfl, by kernel_rfl⟩ (hval 3 22 v3 rfl rfl) h3
  clear hA0 hval0
  refine (walk W a0 w0 a1 w1 a2 w2 a3 n3 c3 qs3 b3).mono fun e W' ⟨he, bel⟩ => ?_
  subst he
  exact ⟨_, rfl, _, _, _, [], _, [], hW', trodAll_mk1 (shut_bool Try.underlying4 _), (trodAll_cons_mk (Below.trod laidOut (by kernel_rfl) (of_decide_eq_true (by kernel_rfl)) k0 bel lt0) (trodAll_cons_mk (Below.trod laidOut (by kernel_rfl) (of_decide_eq_true (by kernel_rfl)) k1 bel lt1) (trodAll_cons_mk (Below.trod laidOut (by kernel_rfl) (of_decide_eq_true (by kernel_rfl)) k2 bel lt2) (trodAll_cons_mk (Below.trod laidOut (by kernel_rfl) (of_decide_eq_true (by kernel_rfl)) k3 bel lt3) trodAll_mk0)))), rfl, bel.frame _, fun h => by cases h⟩
theorem over : Rows.idsPartsRow.holds Try.pinned (OpenSpec.ofChange Rows.idsPartsSpec) :=
  OpenClaim.holds_of_wide 6 Try.f6 rfl rfl rfl rfl rfl rfl rfl ⟨rfl, rfl, rfl, rfl, rfl⟩ rfl rfl rfl rfl rfl (by kernel_rfl) Try.func6 (by kernel_rfl)
    (of_decide_eq_true (by kernel_rfl)) (by unfold Func.isWrapper; first | (rw [if_pos (by decide +kernel)]; kernel_rfl) | (rw [if_neg (by decide +kernel)]; exact ⟨rfl, rfl⟩))
    (fun os started H enc _ => lifted os started H enc)
/-- The statement. -/
theorem proved : Rows.IdsPartsSaid := over
end Go.Proofs.Ytpafcabcnkmadaa.idsParts
