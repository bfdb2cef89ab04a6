/-
  What any calls make of timers (the first 80), and how these stand behind each, is what the document's row, which is sorted, tells (conciergelaw13.TimersRuns answers true). No condition.
-/
import Derived.Test.YtmcifmgfgdahnaaTmR
import Derived.Test.YtmcifmgfgdahnaaOpenI
import Derived.ProofKit
import Derived.OpenShut
import Derived.ChangeOld
import Derived.Deep.DeepCutAuto
import Derived.Deep.CutBlock
namespace Go.Proofs.Ytmcifmgfgdahnaa.timersRuns
open Go.ChangeShapes Go.WideShapes Go.ChangeAt Go.RowKit
open Go.Proofs.Ytmcifmgfgdahnaa.Tm
open Go.Proofs.Ytmcifmgfgdahnaa.Id (Tr RR)
set_option linter.unusedVariables false
set_option linter.unusedSimpArgs false

theorem without_len (l : List D) (k : Int) : (without l k).length ≤ l.length := List.length_filter_le _ _
theorem setL_len (l : List D) (k t : Int) : (setL l k t).length ≤ l.length + 1 := by
  unfold setL
  split
  · have := (ins_perm (k, t) (without l k)).length_eq
    have h2 := without_len l k
    unfold Tm.set
    rw [this, List.length_cons]
    omega
  · omega
theorem left_len (l : List D) (t : Int) : (Tm.left l t).length ≤ l.length := (List.dropWhile_sublist _).length_le
theorem due_len (l : List D) (t : Int) : (Tm.due l t).length ≤ l.length := (List.takeWhile_sublist _).length_le
set_option maxRecDepth 20000 in
set_option maxHeartbeats 8000000 in
theorem walk (W : World) (a3 : Option Addr) (n3 c3 : Nat) (qs : List Oq) (hq : OqR W (.slice a3 n3 c3) n3 qs) :
    Calls Try.prog 3 #[.slice a3 n3 c3] W fun e w' => e = .returned (.bool true) ∧ Below W.heap.size W w' := by
  have HA := Lib.hid (fun w => awake_any w)
  have HQ := Lib.hid hq
  have HQL := Lib.hid hq.len
  have HWF := Lib.hid hq.wf
  have hn63 : (n3 : Int) ≤ 9223372036854775807 := by
    obtain ⟨b, c, es0, hcc, hcm⟩ := hq.rd.shape
    simp only [Value.slice.injEq] at es0
    obtain ⟨_, _, rfl⟩ := es0
    unfold maxLen at hcm
    omega
  have HN63 := Lib.hid hn63
  have HN := Lib.hid (lt_new (Below.refl W.heap.size W))
  clear hq hn63
  go_enter Try.func3, Try.ntmps3
  go_wp2_with fail
  refine HN.out.mono ?_
  rintro e w1 ⟨p0, rfl, hl, hb⟩
  have HL1 := Lib.hid hl
  clear hl hb HN
  go_wp2_with fail
  refine (HA.out _).mono ?_
  rintro e w2 ⟨rfl, hb⟩
  have HL2 := Lib.hid (HL1.out.gr hb)
  have HR2 : Hid (Rw w2 40 (.slice none 0 0) []) := World.ownsRow_nil _ _ _ 2
  clear hb HA HL1
  go_wp2_with fail
  go_loopw [3, 4, 5] (fun tv lv iv wr => ∃ (i p m : Nat) (l : List D) (A : Option Addr) (C : Nat), i ≤ n3 ∧ i ≤ 80 ∧ iv = .int .i64 (i : Int) ∧ tv = .pointer (some ⟨p, 0, none⟩) ∧ lv = .slice A m C ∧ Hid (m = l.length ∧ m ≤ i) ∧ Hid (LT W wr p l) ∧ Hid (Rw wr 40 (.slice A m C) l)) (fun _ _ iv _ => n3 - (intOf iv).toNat)
  case atStart => exact ⟨0, p0, 0, [], none, 0, Nat.zero_le _, Nat.zero_le _, rfl, rfl, rfl, ⟨rfl, Nat.zero_le _⟩, HL2, HR2⟩
  case round =>
    clear HL2 HR2
    have h63 := HN63.out
    obtain ⟨i, p, m, l, A, C, hin, hi80, hiv, htv, hlv, HM, HLT, HRW⟩ := hrel
    subst hiv htv hlv
    by_cases hlt : i < n3
    · by_cases hl80 : i < 80
      · have hil : i < qs.length := by rw [HQL.out]; exact hlt
        obtain ⟨b, o, ea, hbl, hcel⟩ := HQ.out.cells (by omega)
        subst ea
        have hwfi := HWF.out qs[i] (List.getElem_mem hil)
        obtain ⟨⟨kd, key, tk⟩, hqe⟩ : ∃ q : Oq, q = qs[i] := ⟨_, rfl⟩
        have hcc := hcel i hil
        rw [← hqe] at hcc hwfi
        obtain ⟨hc0, hc1, hc2⟩ := hcc
        have c0 := cell_gr HLT.out.low hc0
        have c1 := cell_gr HLT.out.low hc1
        have c2 := cell_gr HLT.out.low hc2
        have HKEY : Hid (I64 key) := bounds_i64 hwfi.2.1
        clear hil hbl hcel hqe hc0 hc1 hc2 hwfi
        have hle : i + 1 ≤ n3 := by omega
        have hle80 : i + 1 ≤ 80 := by omega
        go_upto_region 9 with fail
        have HL1 : Hid (LT W (wr.alloc (.cells #[.int .i64 kd, .int .i64 key, .int .i64 tk] 28)) p l) := HLT.out.gr ((Below.refl _ _).alloc (Nat.le_refl _) _)
        have HR1 : Hid (Rw (wr.alloc (.cells #[.int .i64 kd, .int .i64 key, .int .i64 tk] 28)) 40 (.slice A m C) l) := HRW.out.gr ((Below.refl _ _).alloc (Nat.le_refl _) _)
        have HB1 : Hid ((wr.alloc (.cells #[.int .i64 kd, .int .i64 key, .int .i64 tk] 28)).heap[wr.heap.size]? = some (.cells #[.int .i64 kd, .int .i64 key, .int .i64 tk] 28 (0, 0))) := heap_alloc_last _ _
        generalize (wr.alloc (.cells #[.int .i64 kd, .int .i64 key, .int .i64 tk] 28)) = w1 at HL1 HR1 HB1 ⊢
        obtain ⟨gb, hgb⟩ : ∃ x, x = wr.heap.size := ⟨_, rfl⟩
        rw [← hgb] at HB1 ⊢
        clear hgb c0 c1 c2 HLT HRW
        obtain ⟨e0, e1, e2⟩ := cells3 HB1.out
        go_upto_block 2 with fail
        go_cut [3, 4, 7, 8, 9, 10, 11, 12] (fun s3 s4 _ _ _ _ _ _ wx => ∃ (p m : Nat) (l : List D) (A : Option Addr) (C : Nat), s3 = .pointer (some ⟨p, 0, none⟩) ∧ s4 = .slice A m C ∧ Hid (m = l.length ∧ m ≤ i + 1) ∧ Hid (LT W wx p l) ∧ Hid (Rw wx 40 (.slice A m C) l))
        case first =>
          by_cases k1 : kd = 1
          · --DEV{
            subst k1
            have HS := Lib.hid (dset_any key tk w1 HR1.out (by have := HM.out; omega))
            obtain ⟨E, hE⟩ : ∃ E, E = setE key tk := ⟨_, rfl⟩
            rw [← hE] at HS
            go_wp2_with fail
            refine HS.out.mono ?_
            rintro e w2 ⟨dv, rfl, ho, hb⟩
            have HL2 := Lib.hid (HL1.out.gr hb)
            have HB2 := Lib.hid (heap_below HB1.out hb)
            obtain ⟨A2, C2, hdv⟩ := ho.sl
            subst hdv
            obtain ⟨m2, hm2⟩ : ∃ m2, m2 = (setL l key tk).length := ⟨_, rfl⟩
            rw [← hm2] at ho ⊢
            have HM2 := Lib.hid hm2
            have HR2 := Lib.hid ho
            clear ho hb HS HL1 HR1 HB1 e0 e1 e2 hm2
            obtain ⟨e0, e1, e2⟩ := cells3 HB2.out
            have HS := Lib.hid (HL2.out.set key tk (by have := HM.out; omega))
            rw [← hE] at HS
            clear hE
            go_wp2_with fail
            refine HS.out.mono ?_
            rintro e w3 ⟨rfl, hl, hk⟩
            have HL3 := Lib.hid hl
            have HR3 := Lib.hid (hk.rw HR2.out)
            clear hl hk HS HL2 HR2 HB2 e0 e1 e2
            go_wp2_with fail
            go_meet
            exact ⟨p, m2, _, A2, C2, rfl, rfl, ⟨HM2.out, by have := setL_len l key tk; have := HM.out; have := HM2.out; omega⟩, HL3, HR3⟩
          by_cases k2 : kd = 2
          · --DEV{
            subst k2
            have HS := Lib.hid (dwithout_any key w1 HR1.out (by have := HM.out; omega))
            go_wp2_with fail
            refine HS.out.mono ?_
            rintro e w2 ⟨dv, rfl, ho, hb⟩
            have HL2 := Lib.hid (HL1.out.gr hb)
            have HB2 := Lib.hid (heap_below HB1.out hb)
            have ho : Rw w2 40 dv (without l key) := ownsRow_mono ho (Nat.zero_le _)
            obtain ⟨A2, C2, hdv⟩ := ho.sl
            subst hdv
            obtain ⟨m2, hm2⟩ : ∃ m2, m2 = (without l key).length := ⟨_, rfl⟩
            rw [← hm2] at ho ⊢
            have HM2 := Lib.hid hm2
            have HR2 := Lib.hid ho
            clear ho hb HS HL1 HR1 HB1 e0 e1 e2 hm2
            obtain ⟨e0, e1, e2⟩ := cells3 HB2.out
            have HS := Lib.hid (HL2.out.stop key HKEY.out)
            obtain ⟨B, hB⟩ : ∃ B, B = stopB l key := ⟨_, rfl⟩
            rw [← hB] at HS
            unfold stopB at hB
            rw [← HM2.out, ← HM.out.1] at hB
            have HBB := Lib.hid hB
            clear hB
            go_wp2_with fail
            refine HS.out.mono ?_
            rintro e w3 ⟨rfl, hl, hk⟩
            have HL3 := Lib.hid hl
            have HR3 := Lib.hid (hk.rw HR2.out)
            clear hl hk HS HL2 HR2 HB2 e0 e1 e2
            by_cases hmm : m2 < m
            · obtain rfl : B = true := by rw [HBB.out]; exact decide_eq_true hmm
              go_wp2_with fail
              go_meet
              exact ⟨p, m2, _, A2, C2, rfl, rfl, ⟨HM2.out, by have := HM.out; omega⟩, HL3, HR3⟩
            · obtain rfl : B = false := by rw [HBB.out]; exact decide_eq_false hmm
              go_wp2_with fail
              go_meet
              exact ⟨p, m2, _, A2, C2, rfl, rfl, ⟨HM2.out, by have := without_len l key; have := HM.out; have := HM2.out; omega⟩, HL3, HR3⟩
          by_cases k3 : kd = 3
          · --DEV{
            subst k3
            have HS := Lib.hid (ddue_any tk w1 HR1.out (by have := HM.out; omega))
            go_wp2_with fail
            refine HS.out.mono ?_
            rintro e w2 ⟨dv, rv, rfl, hd, ho, hb⟩
            have HL2 := Lib.hid (HL1.out.gr hb)
            have HB2 := Lib.hid (heap_below HB1.out hb)
            obtain ⟨A2, C2, hrv⟩ := ho.sl
            subst hrv
            obtain ⟨m2, hm2⟩ : ∃ m2, m2 = (Tm.left l tk).length := ⟨_, rfl⟩
            rw [← hm2] at ho ⊢
            have HM2 := Lib.hid hm2
            have HR2 := Lib.hid ho
            have HD2 := Lib.hid hd
            clear ho hd hb HS HL1 HR1 HB1 e0 e1 e2 hm2
            obtain ⟨e0, e1, e2⟩ := cells3 HB2.out
            have HS := Lib.hid (HL2.out.due tk)
            go_wp2_with fail
            refine HS.out.mono ?_
            rintro e w3 ⟨dv2, rfl, hd2, hl, hk⟩
            have HL3 := Lib.hid hl
            have HR3 := Lib.hid (hk.rw HR2.out)
            have HD3 := Lib.hid (hk.rw HD2.out)
            have HE3 := Lib.hid hd2
            clear hl hk hd2 HS HL2 HR2 HD2 HB2 e0 e1 e2
            go_wp2_with fail
            refine (same_any w3 HE3.out.rr HD3.out.rr (by have := due_len l tk; have := HM.out; omega)).mono ?_
            rintro e w4 ⟨rfl, hb⟩
            have HL4 := Lib.hid (HL3.out.gr hb)
            have HR4 := Lib.hid (HR3.out.gr hb)
            clear hb HL3 HR3 HD3 HE3
            go_wp2_with fail
            go_meet
            exact ⟨p, m2, _, A2, C2, rfl, rfl, ⟨HM2.out, by have := left_len l tk; have := HM.out; have := HM2.out; omega⟩, HL4, HR4⟩
          by_cases k4 : kd = 4
          · --DEV{
            subst k4
            have HS := Lib.hid HL1.out.fork
            go_wp2_with fail
            refine HS.out.mono ?_
            rintro e w2 ⟨p2, rfl, hl2, hb⟩
            have HR2 := Lib.hid (HR1.out.gr hb)
            have HB2 := Lib.hid (heap_below HB1.out hb)
            have HS2 := Lib.hid (hl2.set key tk (by have := HM.out; omega))
            clear hl2 hb HS HL1 HR1 HB1 e0 e1 e2
            obtain ⟨e0, e1, e2⟩ := cells3 HB2.out
            go_wp2_with fail
            refine HS2.out.mono ?_
            rintro e w3 ⟨rfl, hl3, hk⟩
            have HR3 := Lib.hid (hk.rw HR2.out)
            have HB3 := Lib.hid (hk _ _ _ _ HB2.out (by decide) (by decide) (by decide))
            have HS3 := Lib.hid (hl3.stop key HKEY.out)
            clear hl3 hk HS2 HR2 HB2 e0 e1 e2
            obtain ⟨e0, e1, e2⟩ := cells3 HB3.out
            go_wp2_with fail
            refine HS3.out.mono ?_
            rintro e w4 ⟨rfl, hl4, hk⟩
            have HR4 := Lib.hid (hk.rw HR3.out)
            have HL4 := Lib.hid hl4.snd
            clear hl4 hk HS3 HR3 HB3 e0 e1 e2
            go_wp2_with fail
            go_meet
            exact ⟨p2, m, l, A, C, rfl, rfl, ⟨HM.out.1, Nat.le_succ_of_le HM.out.2⟩, HL4, HR4⟩
          have f1 : (kd == 1) = false := by rw [beq_eq_false_iff_ne]; exact k1
          have f2 : (kd == 2) = false := by rw [beq_eq_false_iff_ne]; exact k2
          have f3 : (kd == 3) = false := by rw [beq_eq_false_iff_ne]; exact k3
          have f4 : (kd == 4) = false := by rw [beq_eq_false_iff_ne]; exact k4
          go_wp2_with fail
          go_meet
          exact ⟨p, m, l, A, C, rfl, rfl, ⟨HM.out.1, Nat.le_succ_of_le HM.out.2⟩, HL1, HR1⟩
        case rest =>
          obtain ⟨p, m, l, A, C, hs3, hs4, HM2, HLT, HRW⟩ := hcut
          subst hs3 hs4
          obtain ⟨w2, hw2⟩ : ∃ x, x = wc := ⟨_, rfl⟩
          subst hw2
          clear HL1 HR1 HB1 e0 e1 e2 HKEY HM
          cases l with
          | nil =>
            obtain rfl : m = 0 := HM2.out.1
            have HN : Hid (Calls Try.prog 16 #[.pointer (some ⟨p, 0, none⟩)] w2 fun e w' => e = .returned (.tuple #[.agg #[.int .i64 0, .int .i64 0], .bool false]) ∧ Below w2.heap.size w2 w') := HLT.out.next
            go_wp2_with fail
            refine HN.out.mono ?_
            rintro e w3 ⟨rfl, hb⟩
            have hb3 : Gr w3 (w3.alloc (.cells #[.int .i64 0, .int .i64 0] 40)) := (Below.refl _ _).alloc (Nat.le_refl _) _
            have HL3 := Lib.hid ((HLT.out.gr hb).gr hb3)
            have HR3 := Lib.hid ((HRW.out.gr hb).gr hb3)
            have HF3 : Hid ((w3.alloc (.cells #[.int .i64 0, .int .i64 0] 40)).heap[w3.heap.size]? = some (.cells #[.int .i64 0, .int .i64 0] 40 (0, 0))) := heap_alloc_last _ _
            clear hb hb3 HN HLT HRW
            go_upto_region 33 with fail
            generalize w3.alloc (.cells #[.int .i64 0, .int .i64 0] 40) = w4 at HL3 HR3 HF3 ⊢
            obtain ⟨g4, hg4⟩ : ∃ x, x = w3.heap.size := ⟨_, rfl⟩
            rw [← hg4] at HF3 ⊢
            clear hg4
            have HD3 : Hid (w4.rangeAt g4 0 [.int .i64 0, .int .i64 0]) := range_of_row HF3.out
            have HC : Hid (Gr w4 w4.drew) := Gr.drew w4
            refine wp_region_G 38 Gr (by kernel_rfl) ?_
            generalize w4.drew = wc at HC ⊢
            -- 0: slot 114
            refine wpG_take preGr (i := 0) (v := ?_) (by kernel_rfl) (some 114) (by kernel_rfl) rfl (by kernel_rfl) (by kernel_rfl) (by kernel_rfl) (fun _ _ _ h => h) (by rfl) (fun w' hw' => ?_) rfl ?_
            rotate_left
            · go_simp
              with_reducible rfl
            simp only [Act.put, List.setIfInBounds_toArray, List.set_cons_zero, List.set_cons_succ]
            -- 1: slot 115
            refine wpG_take preGr (i := 1) (v := ?_) (by kernel_rfl) (some 115) (by kernel_rfl) rfl (by kernel_rfl) (by kernel_rfl) (by kernel_rfl) (fun _ _ _ h => h) (by rfl) (fun w' hw' => ?_) rfl ?_
            rotate_left
            · go_simp
              with_reducible rfl
            simp only [Act.put, List.setIfInBounds_toArray, List.set_cons_zero, List.set_cons_succ]
            -- 2: slot 116
            refine wpG_take preGr (i := 2) (v := ?_) (by kernel_rfl) (some 116) (by kernel_rfl) rfl (by kernel_rfl) (by kernel_rfl) (by kernel_rfl) (fun _ _ _ h => h) (by rfl) (fun w' hw' => ?_) rfl ?_
            rotate_left
            · go_simp
              with_reducible rfl
            simp only [Act.put, List.setIfInBounds_toArray, List.set_cons_zero, List.set_cons_succ]
            -- 3: slot 117
            refine wpG_take preGr (i := 3) (v := ?_) (by kernel_rfl) (some 117) (by kernel_rfl) rfl (by kernel_rfl) (by kernel_rfl) (by kernel_rfl) (fun _ _ _ h => h) (by rfl) (fun w' hw' => ?_) rfl ?_
            rotate_left
            · go_simp
              with_reducible rfl
            simp only [Act.put, List.setIfInBounds_toArray, List.set_cons_zero, List.set_cons_succ]
            -- 4: slot 118
            refine wpG_take preGr (i := 4) (v := ?_) (by kernel_rfl) (some 118) (by kernel_rfl) rfl (by kernel_rfl) (by kernel_rfl) (by kernel_rfl) (fun _ _ _ h => h) (by rfl) (fun w' hw' => ?_) rfl ?_
            rotate_left
            · go_simp
              with_reducible rfl
            simp only [Act.put, List.setIfInBounds_toArray, List.set_cons_zero, List.set_cons_succ]
            -- 5: slot 119
            refine wpG_take preGr (i := 5) (v := ?_) (by kernel_rfl) (some 119) (by kernel_rfl) rfl (by kernel_rfl) (by kernel_rfl) (by kernel_rfl) (fun _ _ _ h => h) (by rfl) (fun w' hw' => ?_) rfl ?_
            rotate_left
            · go_simp
              with_reducible rfl
            simp only [Act.put, List.setIfInBounds_toArray, List.set_cons_zero, List.set_cons_succ]
            -- 6: slot 120
            refine wpG_take preGr (i := 6) (v := ?_) (by kernel_rfl) (some 120) (by kernel_rfl) rfl (by kernel_rfl) (by kernel_rfl) (by kernel_rfl) (fun _ _ _ h => h) (by rfl) (fun w' hw' => ?_) rfl ?_
            rotate_left
            · go_simp
              with_reducible rfl
            simp only [Act.put, List.setIfInBounds_toArray, List.set_cons_zero, List.set_cons_succ]
            -- 7: slot 121
            refine wpG_take preGr (i := 7) (v := ?_) (by kernel_rfl) (some 121) (by kernel_rfl) rfl (by kernel_rfl) (by kernel_rfl) (by kernel_rfl) (fun _ _ _ h => h) (by rfl) (fun w' hw' => ?_) rfl ?_
            rotate_left
            · go_simp
              with_reducible rfl
            simp only [Act.put, List.setIfInBounds_toArray, List.set_cons_zero, List.set_cons_succ]
            refine wpG_pass preGr (i := 8) (by kernel_rfl) (some 122) (by kernel_rfl) rfl (by kernel_rfl) (by kernel_rfl) (by kernel_rfl) (fun _ _ _ h => h) (by rfl) rfl ?_
            simp only [Act.put, List.setIfInBounds_toArray, List.set_cons_zero, List.set_cons_succ]
            refine wpG_pass preGr (i := 9) (by kernel_rfl) (some 123) (by kernel_rfl) rfl (by kernel_rfl) (by kernel_rfl) (by kernel_rfl) (fun _ _ _ h => h) (by rfl) rfl ?_
            simp only [Act.put, List.setIfInBounds_toArray, List.set_cons_zero, List.set_cons_succ]
            refine wpG_pass preGr (i := 10) (by kernel_rfl) (some 124) (by kernel_rfl) rfl (by kernel_rfl) (by kernel_rfl) (by kernel_rfl) (fun _ _ _ h => h) (by rfl) rfl ?_
            simp only [Act.put, List.setIfInBounds_toArray, List.set_cons_zero, List.set_cons_succ]
            refine wpG_pass preGr (i := 11) (by kernel_rfl) (some 125) (by kernel_rfl) rfl (by kernel_rfl) (by kernel_rfl) (by kernel_rfl) (fun _ _ _ h => h) (by rfl) rfl ?_
            simp only [Act.put, List.setIfInBounds_toArray, List.set_cons_zero, List.set_cons_succ]
            refine wpG_pass preGr (i := 12) (by kernel_rfl) (some 126) (by kernel_rfl) rfl (by kernel_rfl) (by kernel_rfl) (by kernel_rfl) (fun _ _ _ h => h) (by rfl) rfl ?_
            simp only [Act.put, List.setIfInBounds_toArray, List.set_cons_zero, List.set_cons_succ]
            -- 13: slot 127
            refine wpG_take preGr (i := 13) (v := ?_) (by kernel_rfl) (some 127) (by kernel_rfl) rfl (by kernel_rfl) (by kernel_rfl) (by kernel_rfl) (fun _ _ _ h => h) (by rfl) (fun w' hw' => ?_) rfl ?_
            rotate_left
            · go_simp
              with_reducible rfl
            simp only [Act.put, List.setIfInBounds_toArray, List.set_cons_zero, List.set_cons_succ]
            -- 14: slot 128
            refine wpG_take preGr (i := 14) (v := ?_) (by kernel_rfl) (some 128) (by kernel_rfl) rfl (by kernel_rfl) (by kernel_rfl) (by kernel_rfl) (fun _ _ _ h => h) (by rfl) (fun w' hw' => ?_) rfl ?_
            rotate_left
            · go_simp
              with_reducible rfl
            simp only [Act.put, List.setIfInBounds_toArray, List.set_cons_zero, List.set_cons_succ]
            -- 15: slot 129
            refine wpG_take preGr (i := 15) (v := ?_) (by kernel_rfl) (some 129) (by kernel_rfl) rfl (by kernel_rfl) (by kernel_rfl) (by kernel_rfl) (fun _ _ _ h => h) (by rfl) (fun w' hw' => ?_) rfl ?_
            rotate_left
            · go_simp
              with_reducible rfl
            simp only [Act.put, List.setIfInBounds_toArray, List.set_cons_zero, List.set_cons_succ]
            -- 16: slot 130
            refine wpG_take preGr (i := 16) (v := ?_) (by kernel_rfl) (some 130) (by kernel_rfl) rfl (by kernel_rfl) (by kernel_rfl) (by kernel_rfl) (fun _ _ _ h => h) (by rfl) (fun w' hw' => ?_) rfl ?_
            rotate_left
            · go_simp
              with_reducible rfl
            simp only [Act.put, List.setIfInBounds_toArray, List.set_cons_zero, List.set_cons_succ]
            -- 17: slot 131
            refine wpG_take preGr (i := 17) (v := ?_) (by kernel_rfl) (some 131) (by kernel_rfl) rfl (by kernel_rfl) (by kernel_rfl) (by kernel_rfl) (fun _ _ _ h => h) (by rfl) (fun w' hw' => ?_) rfl ?_
            rotate_left
            · go_simp
              with_reducible rfl
            simp only [Act.put, List.setIfInBounds_toArray, List.set_cons_zero, List.set_cons_succ]
            -- 18: slot 132
            refine wpG_take preGr (i := 18) (v := ?_) (by kernel_rfl) (some 132) (by kernel_rfl) rfl (by kernel_rfl) (by kernel_rfl) (by kernel_rfl) (fun _ _ _ h => h) (by rfl) (fun w' hw' => ?_) rfl ?_
            rotate_left
            · go_simp
              with_reducible rfl
            simp only [Act.put, List.setIfInBounds_toArray, List.set_cons_zero, List.set_cons_succ]
            -- 19: slot 133
            refine wpG_take preGr (i := 19) (v := ?_) (by kernel_rfl) (some 133) (by kernel_rfl) rfl (by kernel_rfl) (by kernel_rfl) (by kernel_rfl) (fun _ _ _ h => h) (by rfl) (fun w' hw' => ?_) rfl ?_
            rotate_left
            · refine Eq.trans (load_mid_run (P := Try.prog) 40 (.tmp 13) ?_ g4 0 ?_ [.int .i64 0, .int .i64 0] _ (range_gr (Gr.trans HC.out hw') HD3.out) Try.underlying40 rfl sizeD) ?_
              · rfl
              · simp [go_sem]
              · with_reducible rfl
            simp only [Act.put, List.setIfInBounds_toArray, List.set_cons_zero, List.set_cons_succ]
            -- 20: slot 134
            refine wpG_take preGr (i := 20) (v := ?_) (by kernel_rfl) (some 134) (by kernel_rfl) rfl (by kernel_rfl) (by kernel_rfl) (by kernel_rfl) (fun _ _ _ h => h) (by rfl) (fun w' hw' => ?_) rfl ?_
            rotate_left
            · go_simp
              with_reducible rfl
            simp only [Act.put, List.setIfInBounds_toArray, List.set_cons_zero, List.set_cons_succ]
            -- 21: slot 135
            refine wpG_take preGr (i := 21) (v := ?_) (by kernel_rfl) (some 135) (by kernel_rfl) rfl (by kernel_rfl) (by kernel_rfl) (by kernel_rfl) (fun _ _ _ h => h) (by rfl) (fun w' hw' => ?_) rfl ?_
            rotate_left
            · go_simp
              with_reducible rfl
            simp only [Act.put, List.setIfInBounds_toArray, List.set_cons_zero, List.set_cons_succ]
            -- 22: slot 136
            refine wpG_take preGr (i := 22) (v := ?_) (by kernel_rfl) (some 136) (by kernel_rfl) rfl (by kernel_rfl) (by kernel_rfl) (by kernel_rfl) (fun _ _ _ h => h) (by rfl) (fun w' hw' => ?_) rfl ?_
            rotate_left
            · go_simp
              with_reducible rfl
            simp only [Act.put, List.setIfInBounds_toArray, List.set_cons_zero, List.set_cons_succ]
            -- 23: slot 137
            refine wpG_take preGr (i := 23) (v := ?_) (by kernel_rfl) (some 137) (by kernel_rfl) rfl (by kernel_rfl) (by kernel_rfl) (by kernel_rfl) (fun _ _ _ h => h) (by rfl) (fun w' hw' => ?_) rfl ?_
            rotate_left
            · go_simp
              with_reducible rfl
            simp only [Act.put, List.setIfInBounds_toArray, List.set_cons_zero, List.set_cons_succ]
            -- 24: slot 138
            refine wpG_take preGr (i := 24) (v := ?_) (by kernel_rfl) (some 138) (by kernel_rfl) rfl (by kernel_rfl) (by kernel_rfl) (by kernel_rfl) (fun _ _ _ h => h) (by rfl) (fun w' hw' => ?_) rfl ?_
            rotate_left
            · go_simp
              with_reducible rfl
            simp only [Act.put, List.setIfInBounds_toArray, List.set_cons_zero, List.set_cons_succ]
            -- 25: slot 139
            refine wpG_take preGr (i := 25) (v := ?_) (by kernel_rfl) (some 139) (by kernel_rfl) rfl (by kernel_rfl) (by kernel_rfl) (by kernel_rfl) (fun _ _ _ h => h) (by rfl) (fun w' hw' => ?_) rfl ?_
            rotate_left
            · go_simp
              with_reducible rfl
            simp only [Act.put, List.setIfInBounds_toArray, List.set_cons_zero, List.set_cons_succ]
            -- 27: slot 141
            refine wpG_take preGr (i := 27) (v := ?_) (by kernel_rfl) (some 141) (by kernel_rfl) rfl (by kernel_rfl) (by kernel_rfl) (by kernel_rfl) (fun _ _ _ h => h) (by rfl) (fun w' hw' => ?_) rfl ?_
            rotate_left
            · go_simp
              with_reducible rfl
            simp only [Act.put, List.setIfInBounds_toArray, List.set_cons_zero, List.set_cons_succ]
            -- 28: slot 142
            refine wpG_take preGr (i := 28) (v := ?_) (by kernel_rfl) (some 142) (by kernel_rfl) rfl (by kernel_rfl) (by kernel_rfl) (by kernel_rfl) (fun _ _ _ h => h) (by rfl) (fun w' hw' => ?_) rfl ?_
            rotate_left
            · go_simp
              with_reducible rfl
            simp only [Act.put, List.setIfInBounds_toArray, List.set_cons_zero, List.set_cons_succ]
            refine wpG_one (i := 26) rfl (by kernel_rfl) (by rfl) ?_
            go_simp
            refine (HL3.out.gr HC.out).len.mono ?_
            rintro e wn ⟨rfl, rfl⟩
            refine ⟨Below.refl _ _, ?_⟩
            try simp only [Act.put, List.setIfInBounds_toArray, List.set_cons_zero, List.set_cons_succ]
            -- 29: slot 143
            refine wpG_take preGr (i := 29) (v := ?_) (by kernel_rfl) (some 143) (by kernel_rfl) rfl (by kernel_rfl) (by kernel_rfl) (by kernel_rfl) (fun _ _ _ h => h) (by rfl) (fun w' hw' => ?_) rfl ?_
            rotate_left
            · go_simp
              with_reducible rfl
            simp only [Act.put, List.setIfInBounds_toArray, List.set_cons_zero, List.set_cons_succ]
            -- 30: slot 144
            refine wpG_take preGr (i := 30) (v := ?_) (by kernel_rfl) (some 144) (by kernel_rfl) rfl (by kernel_rfl) (by kernel_rfl) (by kernel_rfl) (fun _ _ _ h => h) (by rfl) (fun w' hw' => ?_) rfl ?_
            rotate_left
            · go_simp
              with_reducible rfl
            simp only [Act.put, List.setIfInBounds_toArray, List.set_cons_zero, List.set_cons_succ]
            -- 31: slot 145
            refine wpG_take preGr (i := 31) (v := ?_) (by kernel_rfl) (some 145) (by kernel_rfl) rfl (by kernel_rfl) (by kernel_rfl) (by kernel_rfl) (fun _ _ _ h => h) (by rfl) (fun w' hw' => ?_) rfl ?_
            rotate_left
            · go_simp
              with_reducible rfl
            simp only [Act.put, List.setIfInBounds_toArray, List.set_cons_zero, List.set_cons_succ]
            -- 32: slot 146
            refine wpG_take preGr (i := 32) (v := ?_) (by kernel_rfl) (some 146) (by kernel_rfl) rfl (by kernel_rfl) (by kernel_rfl) (by kernel_rfl) (fun _ _ _ h => h) (by rfl) (fun w' hw' => ?_) rfl ?_
            rotate_left
            · go_simp
              with_reducible rfl
            simp only [Act.put, List.setIfInBounds_toArray, List.set_cons_zero, List.set_cons_succ]
            -- 34: slot 148
            refine wpG_take preGr (i := 34) (v := ?_) (by kernel_rfl) (some 148) (by kernel_rfl) rfl (by kernel_rfl) (by kernel_rfl) (by kernel_rfl) (fun _ _ _ h => h) (by rfl) (fun w' hw' => ?_) rfl ?_
            rotate_left
            · go_simp
              with_reducible rfl
            simp only [Act.put, List.setIfInBounds_toArray, List.set_cons_zero, List.set_cons_succ]
            refine wpG_one (i := 33) rfl (by kernel_rfl) (by rfl) ?_
            go_simp
            refine (HL3.out.gr HC.out).all.mono ?_
            rintro e wn ⟨dv, rfl, ho, hb⟩
            refine ⟨hb, ?_⟩
            have HO := Lib.hid ho
            have HC' : Hid (Gr w4 wn) := Gr.trans HC.out hb
            clear HC hb ho
            have HC := HC'
            clear HC'
            obtain ⟨wc, hwc⟩ : ∃ x, x = wn := ⟨_, rfl⟩
            subst hwc
            try simp only [Act.put, List.setIfInBounds_toArray, List.set_cons_zero, List.set_cons_succ]
            refine wpG_one (i := 35) rfl (by kernel_rfl) (by rfl) ?_
            go_simp
            refine (same_any wc HO.out.rr (HR3.out.gr HC.out).rr (by decide)).mono ?_
            rintro e wn ⟨rfl, hb⟩
            refine ⟨hb, ?_⟩
            have HC' : Hid (Gr w4 wn) := Gr.trans HC.out hb
            clear HC hb
            have HC := HC'
            clear HC' HO
            obtain ⟨wc, hwc⟩ : ∃ x, x = wn := ⟨_, rfl⟩
            subst hwc
            try simp only [Act.put, List.setIfInBounds_toArray, List.set_cons_zero, List.set_cons_succ]
            -- 36: slot 150
            refine wpG_take preGr (i := 36) (v := ?_) (by kernel_rfl) (some 150) (by kernel_rfl) rfl (by kernel_rfl) (by kernel_rfl) (by kernel_rfl) (fun _ _ _ h => h) (by rfl) (fun w' hw' => ?_) rfl ?_
            rotate_left
            · go_simp
              with_reducible rfl
            simp only [Act.put, List.setIfInBounds_toArray, List.set_cons_zero, List.set_cons_succ]
            -- 37: slot 151
            refine wpG_take preGr (i := 37) (v := ?_) (by kernel_rfl) (some 151) (by kernel_rfl) rfl (by kernel_rfl) (by kernel_rfl) (by kernel_rfl) (fun _ _ _ h => h) (by rfl) (fun w' hw' => ?_) rfl ?_
            rotate_left
            · go_simp
              with_reducible rfl
            simp only [Act.put, List.setIfInBounds_toArray, List.set_cons_zero, List.set_cons_succ]
            refine wpG_done (by kernel_rfl) ?_ _
            have HL5 := Lib.hid (HL3.out.gr HC.out)
            have HR5 := Lib.hid (HR3.out.gr HC.out)
            clear HC HL3 HR3 HF3 HD3
            go_wp2_with fail
            go_roundw
            case rel =>
              first
                | exact ⟨i + 1, p, 0, [], A, C, hle, hle80, by go_num, rfl, rfl, ⟨rfl, Nat.zero_le _⟩, HL5, HR5⟩
                | ((repeat apply Exists.intro); exact ⟨⟨i + 1, p, 0, [], A, C, hle, hle80, by go_num, rfl, rfl, ⟨rfl, Nat.zero_le _⟩, HL5, HR5⟩, rfl⟩)
            case measure => simp [intOf]; omega
          | cons x l =>
            have hm0 : 0 < m := by have := HM2.out.1; rw [List.length_cons] at this; omega
            have hm1 : (0 : Int) < (m : Int) := by omega
            obtain ⟨b1, o1, ea, q0, q1⟩ := cells_at HRW.out.rr HM2.out.1 (i := 0) (by simp)
            subst ea
            have HN : Hid (Calls Try.prog 16 #[.pointer (some ⟨p, 0, none⟩)] w2 fun e w' => e = .returned (.tuple #[.agg #[.int .i64 x.1, .int .i64 x.2], .bool true]) ∧ Below w2.heap.size w2 w') := HLT.out.next
            go_wp2_with fail
            refine HN.out.mono ?_
            rintro e w3 ⟨rfl, hb⟩
            have HM16 : Hid ((x :: l).length ≤ 65536) := by have := HM2.out; show _ ≤ _; omega
            have hb3 : Gr w3 (w3.alloc (.cells #[.int .i64 x.1, .int .i64 x.2] 40)) := (Below.refl _ _).alloc (Nat.le_refl _) _
            have HL3 := Lib.hid ((HLT.out.gr hb).gr hb3)
            have HR3 := Lib.hid ((HRW.out.gr hb).gr hb3)
            have HF3 : Hid ((w3.alloc (.cells #[.int .i64 x.1, .int .i64 x.2] 40)).heap[w3.heap.size]? = some (.cells #[.int .i64 x.1, .int .i64 x.2] 40 (0, 0))) := heap_alloc_last _ _
            have HQ3 : Hid ((w3.alloc (.cells #[.int .i64 x.1, .int .i64 x.2] 40)).rangeAt b1 o1 (two x)) := fun j u hj => by
              match j, hj with
              | 0, hj => obtain rfl : _ = u := by simpa [two] using hj
                         exact cell_gr hb3 (cell_gr hb (by simpa using q0))
              | 1, hj => obtain rfl : _ = u := by simpa [two] using hj
                         exact cell_gr hb3 (cell_gr hb (by simpa using q1))
              | j + 2, hj => simp [two] at hj
            clear hb hb3 HN HLT HRW q0 q1
            have hxx : ∀ w, (binOp .neq 40 (.agg #[.int .i64 x.1, .int .i64 x.2]) (.agg #[.int .i64 x.1, .int .i64 x.2])).run Try.prog w = .ok (.bool false) w := fun w => by go_simp
            go_upto_region 33 with fail
            generalize w3.alloc (.cells #[.int .i64 x.1, .int .i64 x.2] 40) = w4 at HL3 HR3 HF3 HQ3 ⊢
            obtain ⟨g4, hg4⟩ : ∃ x, x = w3.heap.size := ⟨_, rfl⟩
            rw [← hg4] at HF3 ⊢
            clear hg4
            have HD3 : Hid (w4.rangeAt g4 0 [.int .i64 x.1, .int .i64 x.2]) := range_of_row HF3.out
            have HC : Hid (Gr w4 w4.drew) := Gr.drew w4
            refine wp_region_G 38 Gr (by kernel_rfl) ?_
            generalize w4.drew = wc at HC ⊢
            -- 0: slot 114
            refine wpG_take preGr (i := 0) (v := ?_) (by kernel_rfl) (some 114) (by kernel_rfl) rfl (by kernel_rfl) (by kernel_rfl) (by kernel_rfl) (fun _ _ _ h => h) (by rfl) (fun w' hw' => ?_) rfl ?_
            rotate_left
            · go_simp
              with_reducible rfl
            simp only [Act.put, List.setIfInBounds_toArray, List.set_cons_zero, List.set_cons_succ]
            -- 1: slot 115
            refine wpG_take preGr (i := 1) (v := ?_) (by kernel_rfl) (some 115) (by kernel_rfl) rfl (by kernel_rfl) (by kernel_rfl) (by kernel_rfl) (fun _ _ _ h => h) (by rfl) (fun w' hw' => ?_) rfl ?_
            rotate_left
            · go_simp
              with_reducible rfl
            simp only [Act.put, List.setIfInBounds_toArray, List.set_cons_zero, List.set_cons_succ]
            -- 2: slot 116
            refine wpG_take preGr (i := 2) (v := ?_) (by kernel_rfl) (some 116) (by kernel_rfl) rfl (by kernel_rfl) (by kernel_rfl) (by kernel_rfl) (fun _ _ _ h => h) (by rfl) (fun w' hw' => ?_) rfl ?_
            rotate_left
            · go_simp
              with_reducible rfl
            simp only [Act.put, List.setIfInBounds_toArray, List.set_cons_zero, List.set_cons_succ]
            -- 3: slot 117
            refine wpG_take preGr (i := 3) (v := ?_) (by kernel_rfl) (some 117) (by kernel_rfl) rfl (by kernel_rfl) (by kernel_rfl) (by kernel_rfl) (fun _ _ _ h => h) (by rfl) (fun w' hw' => ?_) rfl ?_
            rotate_left
            · go_simp
              with_reducible rfl
            simp only [Act.put, List.setIfInBounds_toArray, List.set_cons_zero, List.set_cons_succ]
            -- 4: slot 118
            refine wpG_take preGr (i := 4) (v := ?_) (by kernel_rfl) (some 118) (by kernel_rfl) rfl (by kernel_rfl) (by kernel_rfl) (by kernel_rfl) (fun _ _ _ h => h) (by rfl) (fun w' hw' => ?_) rfl ?_
            rotate_left
            · go_simp
              with_reducible rfl
            simp only [Act.put, List.setIfInBounds_toArray, List.set_cons_zero, List.set_cons_succ]
            -- 5: slot 119
            refine wpG_take preGr (i := 5) (v := ?_) (by kernel_rfl) (some 119) (by kernel_rfl) rfl (by kernel_rfl) (by kernel_rfl) (by kernel_rfl) (fun _ _ _ h => h) (by rfl) (fun w' hw' => ?_) rfl ?_
            rotate_left
            · go_simp
              with_reducible rfl
            simp only [Act.put, List.setIfInBounds_toArray, List.set_cons_zero, List.set_cons_succ]
            -- 6: slot 120
            refine wpG_take preGr (i := 6) (v := ?_) (by kernel_rfl) (some 120) (by kernel_rfl) rfl (by kernel_rfl) (by kernel_rfl) (by kernel_rfl) (fun _ _ _ h => h) (by rfl) (fun w' hw' => ?_) rfl ?_
            rotate_left
            · go_simp
              with_reducible rfl
            simp only [Act.put, List.setIfInBounds_toArray, List.set_cons_zero, List.set_cons_succ]
            -- 7: slot 121
            refine wpG_take preGr (i := 7) (v := ?_) (by kernel_rfl) (some 121) (by kernel_rfl) rfl (by kernel_rfl) (by kernel_rfl) (by kernel_rfl) (fun _ _ _ h => h) (by rfl) (fun w' hw' => ?_) rfl ?_
            rotate_left
            · go_simp
              with_reducible rfl
            simp only [Act.put, List.setIfInBounds_toArray, List.set_cons_zero, List.set_cons_succ]
            -- 8: slot 122
            refine wpG_take preGr (i := 8) (v := ?_) (by kernel_rfl) (some 122) (by kernel_rfl) rfl (by kernel_rfl) (by kernel_rfl) (by kernel_rfl) (fun _ _ _ h => h) (by rfl) (fun w' hw' => ?_) rfl ?_
            rotate_left
            · refine Eq.trans (load_mid_run (P := Try.prog) 40 (.tmp 13) ?_ g4 0 ?_ [.int .i64 x.1, .int .i64 x.2] _ (range_gr (Gr.trans HC.out hw') HD3.out) Try.underlying40 rfl sizeD) ?_
              · rfl
              · simp [go_sem]
              · with_reducible rfl
            simp only [Act.put, List.setIfInBounds_toArray, List.set_cons_zero, List.set_cons_succ]
            -- 9: slot 123
            refine wpG_take preGr (i := 9) (v := ?_) (by kernel_rfl) (some 123) (by kernel_rfl) rfl (by kernel_rfl) (by kernel_rfl) (by kernel_rfl) (fun _ _ _ h => h) (by rfl) (fun w' hw' => ?_) rfl ?_
            rotate_left
            · go_simp
              with_reducible rfl
            simp only [Act.put, List.setIfInBounds_toArray, List.set_cons_zero, List.set_cons_succ]
            -- 10: slot 124
            refine wpG_take preGr (i := 10) (v := ?_) (by kernel_rfl) (some 124) (by kernel_rfl) rfl (by kernel_rfl) (by kernel_rfl) (by kernel_rfl) (fun _ _ _ h => h) (by rfl) (fun w' hw' => ?_) rfl ?_
            rotate_left
            · go_simp
              with_reducible rfl
            simp only [Act.put, List.setIfInBounds_toArray, List.set_cons_zero, List.set_cons_succ]
            -- 11: slot 125
            refine wpG_take preGr (i := 11) (v := ?_) (by kernel_rfl) (some 125) (by kernel_rfl) rfl (by kernel_rfl) (by kernel_rfl) (by kernel_rfl) (fun _ _ _ h => h) (by rfl) (fun w' hw' => ?_) rfl ?_
            rotate_left
            · refine Eq.trans (load_mid_run (P := Try.prog) 40 (.tmp 124) ?_ b1 o1 ?_ [.int .i64 x.1, .int .i64 x.2] _ (range_gr (Gr.trans HC.out hw') HQ3.out) Try.underlying40 rfl sizeD) ?_
              · rfl
              · simp [go_sem]
              · with_reducible rfl
            simp only [Act.put, List.setIfInBounds_toArray, List.set_cons_zero, List.set_cons_succ]
            -- 12: slot 126
            refine wpG_take preGr (i := 12) (v := ?_) (by kernel_rfl) (some 126) (by kernel_rfl) rfl (by kernel_rfl) (by kernel_rfl) (by kernel_rfl) (fun _ _ _ h => h) (by rfl) (fun w' hw' => ?_) rfl ?_
            rotate_left
            · go_simp
              with_reducible rfl
            simp only [Act.put, List.setIfInBounds_toArray, List.set_cons_zero, List.set_cons_succ]
            -- 13: slot 127
            refine wpG_take preGr (i := 13) (v := ?_) (by kernel_rfl) (some 127) (by kernel_rfl) rfl (by kernel_rfl) (by kernel_rfl) (by kernel_rfl) (fun _ _ _ h => h) (by rfl) (fun w' hw' => ?_) rfl ?_
            rotate_left
            · go_simp
              with_reducible rfl
            simp only [Act.put, List.setIfInBounds_toArray, List.set_cons_zero, List.set_cons_succ]
            -- 14: slot 128
            refine wpG_take preGr (i := 14) (v := ?_) (by kernel_rfl) (some 128) (by kernel_rfl) rfl (by kernel_rfl) (by kernel_rfl) (by kernel_rfl) (fun _ _ _ h => h) (by rfl) (fun w' hw' => ?_) rfl ?_
            rotate_left
            · go_simp
              with_reducible rfl
            simp only [Act.put, List.setIfInBounds_toArray, List.set_cons_zero, List.set_cons_succ]
            -- 15: slot 129
            refine wpG_take preGr (i := 15) (v := ?_) (by kernel_rfl) (some 129) (by kernel_rfl) rfl (by kernel_rfl) (by kernel_rfl) (by kernel_rfl) (fun _ _ _ h => h) (by rfl) (fun w' hw' => ?_) rfl ?_
            rotate_left
            · go_simp
              with_reducible rfl
            simp only [Act.put, List.setIfInBounds_toArray, List.set_cons_zero, List.set_cons_succ]
            -- 16: slot 130
            refine wpG_take preGr (i := 16) (v := ?_) (by kernel_rfl) (some 130) (by kernel_rfl) rfl (by kernel_rfl) (by kernel_rfl) (by kernel_rfl) (fun _ _ _ h => h) (by rfl) (fun w' hw' => ?_) rfl ?_
            rotate_left
            · go_simp
              with_reducible rfl
            simp only [Act.put, List.setIfInBounds_toArray, List.set_cons_zero, List.set_cons_succ]
            -- 17: slot 131
            refine wpG_take preGr (i := 17) (v := ?_) (by kernel_rfl) (some 131) (by kernel_rfl) rfl (by kernel_rfl) (by kernel_rfl) (by kernel_rfl) (fun _ _ _ h => h) (by rfl) (fun w' hw' => ?_) rfl ?_
            rotate_left
            · go_simp
              with_reducible rfl
            simp only [Act.put, List.setIfInBounds_toArray, List.set_cons_zero, List.set_cons_succ]
            -- 18: slot 132
            refine wpG_take preGr (i := 18) (v := ?_) (by kernel_rfl) (some 132) (by kernel_rfl) rfl (by kernel_rfl) (by kernel_rfl) (by kernel_rfl) (fun _ _ _ h => h) (by rfl) (fun w' hw' => ?_) rfl ?_
            rotate_left
            · go_simp
              with_reducible rfl
            simp only [Act.put, List.setIfInBounds_toArray, List.set_cons_zero, List.set_cons_succ]
            refine wpG_pass preGr (i := 19) (by kernel_rfl) (some 133) (by kernel_rfl) rfl (by kernel_rfl) (by kernel_rfl) (by kernel_rfl) (fun _ _ _ h => h) (by rfl) rfl ?_
            simp only [Act.put, List.setIfInBounds_toArray, List.set_cons_zero, List.set_cons_succ]
            refine wpG_pass preGr (i := 20) (by kernel_rfl) (some 134) (by kernel_rfl) rfl (by kernel_rfl) (by kernel_rfl) (by kernel_rfl) (fun _ _ _ h => h) (by rfl) rfl ?_
            simp only [Act.put, List.setIfInBounds_toArray, List.set_cons_zero, List.set_cons_succ]
            refine wpG_pass preGr (i := 21) (by kernel_rfl) (some 135) (by kernel_rfl) rfl (by kernel_rfl) (by kernel_rfl) (by kernel_rfl) (fun _ _ _ h => h) (by rfl) rfl ?_
            simp only [Act.put, List.setIfInBounds_toArray, List.set_cons_zero, List.set_cons_succ]
            -- 22: slot 136
            refine wpG_take preGr (i := 22) (v := ?_) (by kernel_rfl) (some 136) (by kernel_rfl) rfl (by kernel_rfl) (by kernel_rfl) (by kernel_rfl) (fun _ _ _ h => h) (by rfl) (fun w' hw' => ?_) rfl ?_
            rotate_left
            · go_simp
              with_reducible rfl
            simp only [Act.put, List.setIfInBounds_toArray, List.set_cons_zero, List.set_cons_succ]
            -- 23: slot 137
            refine wpG_take preGr (i := 23) (v := ?_) (by kernel_rfl) (some 137) (by kernel_rfl) rfl (by kernel_rfl) (by kernel_rfl) (by kernel_rfl) (fun _ _ _ h => h) (by rfl) (fun w' hw' => ?_) rfl ?_
            rotate_left
            · go_simp
              with_reducible rfl
            simp only [Act.put, List.setIfInBounds_toArray, List.set_cons_zero, List.set_cons_succ]
            -- 24: slot 138
            refine wpG_take preGr (i := 24) (v := ?_) (by kernel_rfl) (some 138) (by kernel_rfl) rfl (by kernel_rfl) (by kernel_rfl) (by kernel_rfl) (fun _ _ _ h => h) (by rfl) (fun w' hw' => ?_) rfl ?_
            rotate_left
            · go_simp
              with_reducible rfl
            simp only [Act.put, List.setIfInBounds_toArray, List.set_cons_zero, List.set_cons_succ]
            -- 25: slot 139
            refine wpG_take preGr (i := 25) (v := ?_) (by kernel_rfl) (some 139) (by kernel_rfl) rfl (by kernel_rfl) (by kernel_rfl) (by kernel_rfl) (fun _ _ _ h => h) (by rfl) (fun w' hw' => ?_) rfl ?_
            rotate_left
            · go_simp
              with_reducible rfl
            simp only [Act.put, List.setIfInBounds_toArray, List.set_cons_zero, List.set_cons_succ]
            -- 27: slot 141
            refine wpG_take preGr (i := 27) (v := ?_) (by kernel_rfl) (some 141) (by kernel_rfl) rfl (by kernel_rfl) (by kernel_rfl) (by kernel_rfl) (fun _ _ _ h => h) (by rfl) (fun w' hw' => ?_) rfl ?_
            rotate_left
            · go_simp
              with_reducible rfl
            simp only [Act.put, List.setIfInBounds_toArray, List.set_cons_zero, List.set_cons_succ]
            -- 28: slot 142
            refine wpG_take preGr (i := 28) (v := ?_) (by kernel_rfl) (some 142) (by kernel_rfl) rfl (by kernel_rfl) (by kernel_rfl) (by kernel_rfl) (fun _ _ _ h => h) (by rfl) (fun w' hw' => ?_) rfl ?_
            rotate_left
            · go_simp
              with_reducible rfl
            simp only [Act.put, List.setIfInBounds_toArray, List.set_cons_zero, List.set_cons_succ]
            refine wpG_one (i := 26) rfl (by kernel_rfl) (by rfl) ?_
            go_simp
            have hlen := (HL3.out.gr HC.out).len
            rw [← HM2.out.1] at hlen
            refine hlen.mono ?_
            clear hlen
            rintro e wn ⟨rfl, rfl⟩
            refine ⟨Below.refl _ _, ?_⟩
            try simp only [Act.put, List.setIfInBounds_toArray, List.set_cons_zero, List.set_cons_succ]
            -- 29: slot 143
            refine wpG_take preGr (i := 29) (v := ?_) (by kernel_rfl) (some 143) (by kernel_rfl) rfl (by kernel_rfl) (by kernel_rfl) (by kernel_rfl) (fun _ _ _ h => h) (by rfl) (fun w' hw' => ?_) rfl ?_
            rotate_left
            · go_simp
              with_reducible rfl
            simp only [Act.put, List.setIfInBounds_toArray, List.set_cons_zero, List.set_cons_succ]
            -- 30: slot 144
            refine wpG_take preGr (i := 30) (v := ?_) (by kernel_rfl) (some 144) (by kernel_rfl) rfl (by kernel_rfl) (by kernel_rfl) (by kernel_rfl) (fun _ _ _ h => h) (by rfl) (fun w' hw' => ?_) rfl ?_
            rotate_left
            · go_simp
              with_reducible rfl
            simp only [Act.put, List.setIfInBounds_toArray, List.set_cons_zero, List.set_cons_succ]
            -- 31: slot 145
            refine wpG_take preGr (i := 31) (v := ?_) (by kernel_rfl) (some 145) (by kernel_rfl) rfl (by kernel_rfl) (by kernel_rfl) (by kernel_rfl) (fun _ _ _ h => h) (by rfl) (fun w' hw' => ?_) rfl ?_
            rotate_left
            · go_simp
              with_reducible rfl
            simp only [Act.put, List.setIfInBounds_toArray, List.set_cons_zero, List.set_cons_succ]
            -- 32: slot 146
            refine wpG_take preGr (i := 32) (v := ?_) (by kernel_rfl) (some 146) (by kernel_rfl) rfl (by kernel_rfl) (by kernel_rfl) (by kernel_rfl) (fun _ _ _ h => h) (by rfl) (fun w' hw' => ?_) rfl ?_
            rotate_left
            · go_simp
              with_reducible rfl
            simp only [Act.put, List.setIfInBounds_toArray, List.set_cons_zero, List.set_cons_succ]
            -- 34: slot 148
            refine wpG_take preGr (i := 34) (v := ?_) (by kernel_rfl) (some 148) (by kernel_rfl) rfl (by kernel_rfl) (by kernel_rfl) (by kernel_rfl) (fun _ _ _ h => h) (by rfl) (fun w' hw' => ?_) rfl ?_
            rotate_left
            · go_simp
              with_reducible rfl
            simp only [Act.put, List.setIfInBounds_toArray, List.set_cons_zero, List.set_cons_succ]
            refine wpG_one (i := 33) rfl (by kernel_rfl) (by rfl) ?_
            go_simp
            refine (HL3.out.gr HC.out).all.mono ?_
            rintro e wn ⟨dv, rfl, ho, hb⟩
            refine ⟨hb, ?_⟩
            have HO := Lib.hid ho
            have HC' : Hid (Gr w4 wn) := Gr.trans HC.out hb
            clear HC hb ho
            have HC := HC'
            clear HC'
            obtain ⟨wc, hwc⟩ : ∃ x, x = wn := ⟨_, rfl⟩
            subst hwc
            try simp only [Act.put, List.setIfInBounds_toArray, List.set_cons_zero, List.set_cons_succ]
            refine wpG_one (i := 35) rfl (by kernel_rfl) (by rfl) ?_
            go_simp
            refine (same_any wc HO.out.rr (HR3.out.gr HC.out).rr HM16.out).mono ?_
            rintro e wn ⟨rfl, hb⟩
            refine ⟨hb, ?_⟩
            have HC' : Hid (Gr w4 wn) := Gr.trans HC.out hb
            clear HC hb
            have HC := HC'
            clear HC' HO
            obtain ⟨wc, hwc⟩ : ∃ x, x = wn := ⟨_, rfl⟩
            subst hwc
            try simp only [Act.put, List.setIfInBounds_toArray, List.set_cons_zero, List.set_cons_succ]
            -- 36: slot 150
            refine wpG_take preGr (i := 36) (v := ?_) (by kernel_rfl) (some 150) (by kernel_rfl) rfl (by kernel_rfl) (by kernel_rfl) (by kernel_rfl) (fun _ _ _ h => h) (by rfl) (fun w' hw' => ?_) rfl ?_
            rotate_left
            · go_simp
              with_reducible rfl
            simp only [Act.put, List.setIfInBounds_toArray, List.set_cons_zero, List.set_cons_succ]
            -- 37: slot 151
            refine wpG_take preGr (i := 37) (v := ?_) (by kernel_rfl) (some 151) (by kernel_rfl) rfl (by kernel_rfl) (by kernel_rfl) (by kernel_rfl) (fun _ _ _ h => h) (by rfl) (fun w' hw' => ?_) rfl ?_
            rotate_left
            · go_simp
              with_reducible rfl
            simp only [Act.put, List.setIfInBounds_toArray, List.set_cons_zero, List.set_cons_succ]
            refine wpG_done (by kernel_rfl) ?_ _
            have HL5 := Lib.hid (HL3.out.gr HC.out)
            have HR5 := Lib.hid (HR3.out.gr HC.out)
            clear HC HL3 HR3 HF3 HD3
            go_wp2_with fail
            go_roundw
            case rel =>
              first
                | exact ⟨i + 1, p, m, x :: l, _, C, hle, hle80, by go_num, rfl, rfl, HM2.out, HL5, HR5⟩
                | ((repeat apply Exists.intro); exact ⟨⟨i + 1, p, m, x :: l, _, C, hle, hle80, by go_num, rfl, rfl, HM2.out, HL5, HR5⟩, rfl⟩)
            case measure => simp [intOf]; omega
      · go_wp2_with fail
        go_ret
        exact ⟨rfl, HLT.out.low⟩
    · go_wp2_with fail
      go_ret
      exact ⟨rfl, HLT.out.low⟩
theorem own : ownKnob Try.prog.godebug = none := by kernel_rfl
theorem laidOut : laidOutB Try.prog = true := by kernel_rfl
set_option maxRecDepth 100000 in
theorem lifted (os : Os) (started : os.Started) (H : Type) (enc : TypeId × Value → H) :
    ReturnsInHanded {} Try.checked os 3 .any (Rows.timersRunsSpec.pre6 enc Try.prog Try.f3 Rows.timersRunsRow.domain false) (Rows.timersRunsSpec.post enc Try.prog Try.f3 false true false false) := by
  refine returnsInHanded_of_change (C := Try.checked) own started (by kernel_rfl) Try.func3
    (ChangeSpec.witness6 (enc := enc) (C := Try.checked) false ⟨#[], #[.slice none 0 0], []⟩ 8 (by kernel_rfl) (by kernel_rfl) (by kernel_rfl) (by kernel_rfl)) ?_
  intro W base args ds gs before hval0 hW hcnd _
  have hval : ∀ (j : Nat) t v, Try.f3.params[j]? = some t → args[j]? = some v → Value.okWide Try.prog W .any base t v := hval0
  have hW' := hW
  obtain ⟨p, q, hA0, hV, rfl, hfz, hnd⟩ := hW
  have hA : DataW.TrodAll enc Try.prog W 0 (fun _ => true) true Try.f3.params.toList args.toList ds p := hA0
  rw [Try.params3] at hA hval
  obtain ⟨v0, vs0, d0, ds0, p0, q0, hargs, rfl, rfl, h0, r0⟩ := trodAll_cons hA
  obtain ⟨rfl, rfl, rfl⟩ := trodAll_nil r0
  obtain rfl : args = #[v0] := by cases args; simp_all
  obtain ⟨rfl, rfl⟩ := trodVars_none hV
  have k0 := h0
  have lt0 : ∀ x ∈ p0, x.block < W.heap.size := by obtain ⟨m, hm⟩ := k0; exact DataW.trod_lt m _ _ _ hm
  obtain ⟨a0, n0, c0, qs0, rfl, b0⟩ := open_ops Try.underlying22 Try.underlying28 ⟨rfl, rfl, rfl⟩ Try.underlying3 Try.underlying3 Try.underlying3 ⟨by kernel_rfl, by kernel_rfl, by kernel_rfl, by kernel_rfl⟩ (hval 0 22 v0 rfl rfl) h0
  clear hA0 hval0
  refine (walk W a0 n0 c0 qs0 b0).mono fun e W' ⟨he, bel⟩ => ?_
  subst he
  exact ⟨_, rfl, _, _, _, [], _, [], hW', trodAll_mk1 (shut_bool Try.underlying4 _), (trodAll_cons_mk (Below.trod laidOut (by kernel_rfl) (of_decide_eq_true (by kernel_rfl)) k0 bel lt0) trodAll_mk0), rfl, bel.frame _, fun h => by cases h⟩
theorem over : Rows.timersRunsRow.holds Try.pinned (OpenSpec.ofChange Rows.timersRunsSpec) :=
  OpenClaim.holds_of_wide 3 Try.f3 rfl rfl rfl rfl rfl rfl rfl ⟨rfl, rfl, rfl, rfl, rfl⟩ rfl rfl rfl rfl rfl (by kernel_rfl) Try.func3 (by kernel_rfl)
    (of_decide_eq_true (by kernel_rfl)) (by unfold Func.isWrapper; first | (rw [if_pos (by decide +kernel)]; kernel_rfl) | (rw [if_neg (by decide +kernel)]; exact ⟨rfl, rfl⟩))
    (fun os started H enc _ => lifted os started H enc)
/-- The statement. -/
theorem proved : Rows.TimersRunsSaid := over
end Go.Proofs.Ytmcifmgfgdahnaa.timersRuns
