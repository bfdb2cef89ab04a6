/-
  What nego.Answer answers by ConfAck, for every rules (the first 18), every options (the first 20, each with the first 20 bytes of its data) and every two numbers, is the question, each option of it fits some rule that takes its number, and of no rule that must be there an option lacks (conciergelaw15.NegoTaken answers true). No conditions.
-/
import Derived.Test.YtbldcjngccmhpaaNgI
import Derived.Test.YtbldcjngccmhpaaNgV
import Derived.Test.YtbldcjngccmhpaaNgW
import Derived.Test.YtbldcjngccmhpaaNgX
import Derived.Test.YtbldcjngccmhpaaOpenN
import Derived.ProofKit
import Derived.OpenShut
import Derived.ChangeOld
namespace Go.Proofs.Ytbldcjngccmhpaa.negoTaken
open Go.ChangeShapes Go.WideShapes Go.ChangeAt Go.RowKit O Ng
set_option linter.unusedVariables false
set_option linter.unusedSimpArgs false

set_option maxRecDepth 20000 in
set_option maxHeartbeats 8000000 in
theorem walk (W : World) (a0 : Option Addr) (n0 c0 : Nat) (rs0 : List Ru) (b0 : RR W (.slice a0 n0 c0) n0 rs0) (a1 : Option Addr) (n1 c1 : Nat) (ts1 : List Tg) (b1 : TR W (.slice a1 n1 c1) n1 ts1) (i1 : ∀ x ∈ ts1, I64 x.typ) (a2 : Int) (w2 : (Lit.int .i64 a2).wf = true) (a3 : Int) (w3 : (Lit.int .i64 a3).wf = true) :
    Calls Try.prog 5 #[.slice a0 n0 c0, .slice a1 n1 c1, .int .i64 a2, .int .i64 a3] W fun e w' => e = .returned (.bool true) ∧ Below W.heap.size W w' := by
  have AW := Lib.hid awake_any
  obtain ⟨m, rs, hm18, hrr, hrules⟩ := rules_in b0
  have HRU := Lib.hid hrules
  have HRR := Lib.hid hrr
  have OP := Lib.hid (opts_any a1 n1 c1 ts1 W b1 i1)
  clear b0 b1 i1 w2 w3 hrr hrules
  go_enter Try.func5, Try.ntmps5
  go_wp2_with fail
  refine (HRU.out W).mono ?_
  rintro e w1 ⟨rfl, rfl⟩
  go_wp2_with fail
  refine OP.out.mono ?_
  rintro e w2 ⟨a4, n, c4, ts, rfl, htr, hn20, hlen, _, hb2⟩
  have HB2 := Lib.hid hb2
  have HT2 := Lib.hid htr
  have HR2 := Lib.hid (HRR.out.below hb2)
  have hm : ∀ x ∈ ts, x.l.length ≤ 1000 := fun x hx => Nat.le_trans (hlen x hx) (by decide)
  have hn : n ≤ 1000 := by omega
  have A1 := Lib.hid (answer_any a0 m c0 rs a4 n c4 ts a2 a3 w2 HR2.out htr hn hm)
  clear hb2 htr hlen hm OP HRU HRR
  go_wp2_with fail
  refine A1.out.mono ?_
  rintro e w3 ⟨v3, us3, rfl, hp3, hto3, hb3⟩
  obtain ⟨x3, y3, ev, _, _⟩ := hto3.tr.shape
  subst ev
  have HP3 := Lib.hid hp3
  have HB3 := Lib.hid (HB2.out.trans (hb3.mono HB2.out.size))
  have HT3 := Lib.hid (HT2.out.below hb3)
  have HR3 := Lib.hid (HR2.out.below hb3)
  have HU3 := Lib.hid hto3.tr
  clear hp3 hto3 hb3 A1 HT2 HR2
  obtain ⟨K, hK⟩ : ∃ K, K = (ans rs (plain ts) a2 a3).1 := ⟨_, rfl⟩
  have HK := Lib.hid hK
  rw [← hK]
  clear hK
  obtain ⟨N3, hN3⟩ : ∃ N, N = us3.length := ⟨_, rfl⟩
  rw [← hN3] at HU3 ⊢
  clear hN3
  by_cases h2 : K = 2
  · subst h2
    have hans : ans rs (plain ts) a2 a3 = (2, (ans rs (plain ts) a2 a3).2) := Prod.ext HK.out.symm rfl
    have hx := ans_ack hans
    have htk := taken hans
    have HA : Hid (areR rs) := hx.2.1
    have HFIT := Lib.hid htk.2.1
    have HLACK := Lib.hid htk.2.2
    have SM := rsame_any x3 a4 N3 n y3 c4 us3 ts w3 HU3.out HT3.out
    rw [decide_eq_true (HP3.out.trans hx.1)] at SM
    have HSM := Lib.hid SM
    have hrl := HR3.out.len
    have htl := HT3.out.len
    clear SM hans hx htk HK HP3 HU3
    go_wp2_with fail
    refine HSM.out.mono ?_
    rintro e w4 ⟨rfl, hb4⟩
    have HB4 := Lib.hid (HB3.out.trans (hb4.mono HB3.out.size))
    have HT4 := Lib.hid (HT3.out.below hb4)
    have HR4 := Lib.hid (HR3.out.below hb4)
    clear hb4 HSM HT3 HR3 HB3 HB2
    go_wp2
    go_loopw [11] (fun iv wr => ∃ i : Nat, i ≤ n ∧ iv = .int .i64 (i : Int) ∧ Below w4.heap.size w4 wr) (fun iv _ => n - (intOf iv).toNat)
    case atStart => exact ⟨0, Nat.zero_le _, rfl, Below.refl _ _⟩
    case round =>
      obtain ⟨i, hin, rfl, hb⟩ := hrel
      have HB0 := Lib.hid hb
      clear hb
      by_cases hlt : i < n
      · obtain ⟨b, o, rfl, hbl, hc⟩ := HT4.out.cells (by omega)
        obtain ⟨hc0, hc1⟩ := hc i (by omega)
        have hv0 := HT4.out.val i (by omega)
        obtain ⟨A, L, C, hv, hL, hLC, hCm⟩ := hv0.sl
        rw [hv] at hc1 hv0
        obtain ⟨T, hT⟩ : ∃ T, T = ts[i].typ := ⟨_, rfl⟩
        obtain ⟨l, hlq⟩ : ∃ l, l = ts[i].l := ⟨_, rfl⟩
        rw [← hT] at hc0
        rw [← hlq] at hv0 hL
        have HBS := Lib.hid hv0
        have HLL := Lib.hid hL
        have HFI : Hid (∃ r ∈ rs, r.typ = T ∧ r.size = (l.length : Int) ∧ takes r (num (T, l)) = true) := HFIT.out (T, l) (by rw [hT, hlq]; exact List.mem_map.2 ⟨_, List.getElem_mem _, rfl⟩)
        have HC0 := Lib.hid hc0
        have HC1 := Lib.hid hc1
        have hin2 : (i : Int) < (n : Int) := by omega
        obtain ⟨wA, hwA⟩ : ∃ x, x = wr := ⟨_, rfl⟩
        subst hwA
        clear hc hv hL hT hlq hc0 hc1 hv0
        go_wp2
        go_loopw [12, 13] (fun fv kv wr => ∃ (k : Nat) (q : Bool), k ≤ m ∧ kv = .int .i64 (k : Int) ∧ fv = .bool q ∧ q = fitTo rs (T, l) k ∧ Below w4.heap.size w4 wr) (fun _ kv _ => m - (intOf kv).toNat)
        case atStart => exact ⟨0, false, Nat.zero_le _, rfl, rfl, (fitTo_zero _ _).symm, HB0.out⟩
        case round =>
          obtain ⟨k, q, hk, rfl, rfl, hq, hb⟩ := hrel
          have HQ := Lib.hid hq
          have HB := Lib.hid hb
          clear hq hb
          by_cases hlt2 : k < m
          · obtain ⟨rb, ro, rfl, hrbl, hrc⟩ := HR4.out.cells (by omega)
            have hrck := hrc k (by omega)
            obtain ⟨r, hr⟩ : ∃ r, r = rs[k] := ⟨_, rfl⟩
            rw [← hr] at hrck
            have HRC := Lib.hid hrck
            have HIS : Hid (isR r) := by show isR r; rw [hr]; exact HA.out.2.1 _ (List.getElem_mem _)
            have HST : Hid (fitTo rs (T, l) (k + 1) = (q || (fits r (T, l) && takes r (num (T, l))))) := by
              show _ = _
              rw [fitTo_succ _ _ _ (by omega), ← hr, ← HQ.out]
            have hkm : (k : Int) < (m : Int) := by omega
            clear hrc hrck hr
            cases q with
            | true =>
              have HFS : Hid (true = fitTo rs (T, l) (k + 1)) := by show _ = _; rw [HST.out]; rfl
              go_upto_region 14 with fail
              refine wp_region_G 41 Gr (by kernel_rfl) ?_
              -- 0: slot 48
              refine wpG_take preGr (i := 0) (v := ?_) (by kernel_rfl) (some 48) (by kernel_rfl) rfl (by kernel_rfl) (by kernel_rfl) (by kernel_rfl) (fun _ _ _ h => h) (by rfl) (fun w' hw' => ?_) rfl ?_
              rotate_left
              · go_simp
                with_reducible rfl
              simp only [Act.put, List.setIfInBounds_toArray, List.set_cons_zero, List.set_cons_succ]
              -- 1: slot 49
              refine wpG_take preGr (i := 1) (v := ?_) (by kernel_rfl) (some 49) (by kernel_rfl) rfl (by kernel_rfl) (by kernel_rfl) (by kernel_rfl) (fun _ _ _ h => h) (by rfl) (fun w' hw' => ?_) rfl ?_
              rotate_left
              · go_simp
                with_reducible rfl
              simp only [Act.put, List.setIfInBounds_toArray, List.set_cons_zero, List.set_cons_succ]
              refine wpG_pass preGr (i := 2) (by kernel_rfl) (some 50) (by kernel_rfl) rfl (by kernel_rfl) (by kernel_rfl) (by kernel_rfl) (fun _ _ _ h => h) (by rfl) rfl ?_
              simp only [Act.put, List.setIfInBounds_toArray, List.set_cons_zero, List.set_cons_succ]
              refine wpG_pass preGr (i := 3) (by kernel_rfl) (some 51) (by kernel_rfl) rfl (by kernel_rfl) (by kernel_rfl) (by kernel_rfl) (fun _ _ _ h => h) (by rfl) rfl ?_
              simp only [Act.put, List.setIfInBounds_toArray, List.set_cons_zero, List.set_cons_succ]
              refine wpG_pass preGr (i := 4) (by kernel_rfl) (some 52) (by kernel_rfl) rfl (by kernel_rfl) (by kernel_rfl) (by kernel_rfl) (fun _ _ _ h => h) (by rfl) rfl ?_
              simp only [Act.put, List.setIfInBounds_toArray, List.set_cons_zero, List.set_cons_succ]
              refine wpG_pass preGr (i := 5) (by kernel_rfl) (some 53) (by kernel_rfl) rfl (by kernel_rfl) (by kernel_rfl) (by kernel_rfl) (fun _ _ _ h => h) (by rfl) rfl ?_
              simp only [Act.put, List.setIfInBounds_toArray, List.set_cons_zero, List.set_cons_succ]
              refine wpG_pass preGr (i := 6) (by kernel_rfl) (some 54) (by kernel_rfl) rfl (by kernel_rfl) (by kernel_rfl) (by kernel_rfl) (fun _ _ _ h => h) (by rfl) rfl ?_
              simp only [Act.put, List.setIfInBounds_toArray, List.set_cons_zero, List.set_cons_succ]
              refine wpG_pass preGr (i := 7) (by kernel_rfl) (some 55) (by kernel_rfl) rfl (by kernel_rfl) (by kernel_rfl) (by kernel_rfl) (fun _ _ _ h => h) (by rfl) rfl ?_
              simp only [Act.put, List.setIfInBounds_toArray, List.set_cons_zero, List.set_cons_succ]
              refine wpG_pass preGr (i := 8) (by kernel_rfl) (some 56) (by kernel_rfl) rfl (by kernel_rfl) (by kernel_rfl) (by kernel_rfl) (fun _ _ _ h => h) (by rfl) rfl ?_
              simp only [Act.put, List.setIfInBounds_toArray, List.set_cons_zero, List.set_cons_succ]
              refine wpG_pass preGr (i := 9) (by kernel_rfl) (some 57) (by kernel_rfl) rfl (by kernel_rfl) (by kernel_rfl) (by kernel_rfl) (fun _ _ _ h => h) (by rfl) rfl ?_
              simp only [Act.put, List.setIfInBounds_toArray, List.set_cons_zero, List.set_cons_succ]
              refine wpG_pass preGr (i := 10) (by kernel_rfl) (some 58) (by kernel_rfl) rfl (by kernel_rfl) (by kernel_rfl) (by kernel_rfl) (fun _ _ _ h => h) (by rfl) rfl ?_
              simp only [Act.put, List.setIfInBounds_toArray, List.set_cons_zero, List.set_cons_succ]
              refine wpG_pass preGr (i := 11) (by kernel_rfl) (some 59) (by kernel_rfl) rfl (by kernel_rfl) (by kernel_rfl) (by kernel_rfl) (fun _ _ _ h => h) (by rfl) rfl ?_
              simp only [Act.put, List.setIfInBounds_toArray, List.set_cons_zero, List.set_cons_succ]
              refine wpG_pass preGr (i := 12) (by kernel_rfl) (some 60) (by kernel_rfl) rfl (by kernel_rfl) (by kernel_rfl) (by kernel_rfl) (fun _ _ _ h => h) (by rfl) rfl ?_
              simp only [Act.put, List.setIfInBounds_toArray, List.set_cons_zero, List.set_cons_succ]
              refine wpG_pass preGr (i := 13) (by kernel_rfl) (some 61) (by kernel_rfl) rfl (by kernel_rfl) (by kernel_rfl) (by kernel_rfl) (fun _ _ _ h => h) (by rfl) rfl ?_
              simp only [Act.put, List.setIfInBounds_toArray, List.set_cons_zero, List.set_cons_succ]
              refine wpG_pass preGr (i := 14) (by kernel_rfl) (some 62) (by kernel_rfl) rfl (by kernel_rfl) (by kernel_rfl) (by kernel_rfl) (fun _ _ _ h => h) (by rfl) rfl ?_
              simp only [Act.put, List.setIfInBounds_toArray, List.set_cons_zero, List.set_cons_succ]
              refine wpG_pass preGr (i := 15) (by kernel_rfl) (some 63) (by kernel_rfl) rfl (by kernel_rfl) (by kernel_rfl) (by kernel_rfl) (fun _ _ _ h => h) (by rfl) rfl ?_
              simp only [Act.put, List.setIfInBounds_toArray, List.set_cons_zero, List.set_cons_succ]
              refine wpG_pass preGr (i := 16) (by kernel_rfl) (some 64) (by kernel_rfl) rfl (by kernel_rfl) (by kernel_rfl) (by kernel_rfl) (fun _ _ _ h => h) (by rfl) rfl ?_
              simp only [Act.put, List.setIfInBounds_toArray, List.set_cons_zero, List.set_cons_succ]
              refine wpG_pass preGr (i := 17) (by kernel_rfl) (some 65) (by kernel_rfl) rfl (by kernel_rfl) (by kernel_rfl) (by kernel_rfl) (fun _ _ _ h => h) (by rfl) rfl ?_
              simp only [Act.put, List.setIfInBounds_toArray, List.set_cons_zero, List.set_cons_succ]
              refine wpG_pass preGr (i := 18) (by kernel_rfl) (some 66) (by kernel_rfl) rfl (by kernel_rfl) (by kernel_rfl) (by kernel_rfl) (fun _ _ _ h => h) (by rfl) rfl ?_
              simp only [Act.put, List.setIfInBounds_toArray, List.set_cons_zero, List.set_cons_succ]
              refine wpG_pass preGr (i := 19) (by kernel_rfl) (some 67) (by kernel_rfl) rfl (by kernel_rfl) (by kernel_rfl) (by kernel_rfl) (fun _ _ _ h => h) (by rfl) rfl ?_
              simp only [Act.put, List.setIfInBounds_toArray, List.set_cons_zero, List.set_cons_succ]
              refine wpG_pass preGr (i := 20) (by kernel_rfl) (some 68) (by kernel_rfl) rfl (by kernel_rfl) (by kernel_rfl) (by kernel_rfl) (fun _ _ _ h => h) (by rfl) rfl ?_
              simp only [Act.put, List.setIfInBounds_toArray, List.set_cons_zero, List.set_cons_succ]
              refine wpG_pass preGr (i := 21) (by kernel_rfl) (some 69) (by kernel_rfl) rfl (by kernel_rfl) (by kernel_rfl) (by kernel_rfl) (fun _ _ _ h => h) (by rfl) rfl ?_
              simp only [Act.put, List.setIfInBounds_toArray, List.set_cons_zero, List.set_cons_succ]
              refine wpG_pass preGr (i := 22) (by kernel_rfl) (some 70) (by kernel_rfl) rfl (by kernel_rfl) (by kernel_rfl) (by kernel_rfl) (fun _ _ _ h => h) (by rfl) rfl ?_
              simp only [Act.put, List.setIfInBounds_toArray, List.set_cons_zero, List.set_cons_succ]
              refine wpG_pass preGr (i := 23) (by kernel_rfl) (some 71) (by kernel_rfl) rfl (by kernel_rfl) (by kernel_rfl) (by kernel_rfl) (fun _ _ _ h => h) (by rfl) rfl ?_
              simp only [Act.put, List.setIfInBounds_toArray, List.set_cons_zero, List.set_cons_succ]
              refine wpG_pass preGr (i := 24) (by kernel_rfl) (some 72) (by kernel_rfl) rfl (by kernel_rfl) (by kernel_rfl) (by kernel_rfl) (fun _ _ _ h => h) (by rfl) rfl ?_
              simp only [Act.put, List.setIfInBounds_toArray, List.set_cons_zero, List.set_cons_succ]
              refine wpG_pass preGr (i := 25) (by kernel_rfl) (some 73) (by kernel_rfl) rfl (by kernel_rfl) (by kernel_rfl) (by kernel_rfl) (fun _ _ _ h => h) (by rfl) rfl ?_
              simp only [Act.put, List.setIfInBounds_toArray, List.set_cons_zero, List.set_cons_succ]
              refine wpG_pass preGr (i := 26) (by kernel_rfl) (some 74) (by kernel_rfl) rfl (by kernel_rfl) (by kernel_rfl) (by kernel_rfl) (fun _ _ _ h => h) (by rfl) rfl ?_
              simp only [Act.put, List.setIfInBounds_toArray, List.set_cons_zero, List.set_cons_succ]
              refine wpG_pass preGr (i := 27) (by kernel_rfl) (some 75) (by kernel_rfl) rfl (by kernel_rfl) (by kernel_rfl) (by kernel_rfl) (fun _ _ _ h => h) (by rfl) rfl ?_
              simp only [Act.put, List.setIfInBounds_toArray, List.set_cons_zero, List.set_cons_succ]
              refine wpG_pass preGr (i := 28) (by kernel_rfl) (some 76) (by kernel_rfl) rfl (by kernel_rfl) (by kernel_rfl) (by kernel_rfl) (fun _ _ _ h => h) (by rfl) rfl ?_
              simp only [Act.put, List.setIfInBounds_toArray, List.set_cons_zero, List.set_cons_succ]
              refine wpG_pass preGr (i := 29) (by kernel_rfl) (some 77) (by kernel_rfl) rfl (by kernel_rfl) (by kernel_rfl) (by kernel_rfl) (fun _ _ _ h => h) (by rfl) rfl ?_
              simp only [Act.put, List.setIfInBounds_toArray, List.set_cons_zero, List.set_cons_succ]
              refine wpG_pass preGr (i := 30) (by kernel_rfl) (some 78) (by kernel_rfl) rfl (by kernel_rfl) (by kernel_rfl) (by kernel_rfl) (fun _ _ _ h => h) (by rfl) rfl ?_
              simp only [Act.put, List.setIfInBounds_toArray, List.set_cons_zero, List.set_cons_succ]
              refine wpG_pass preGr (i := 31) (by kernel_rfl) (some 79) (by kernel_rfl) rfl (by kernel_rfl) (by kernel_rfl) (by kernel_rfl) (fun _ _ _ h => h) (by rfl) rfl ?_
              simp only [Act.put, List.setIfInBounds_toArray, List.set_cons_zero, List.set_cons_succ]
              refine wpG_pass preGr (i := 32) (by kernel_rfl) (some 80) (by kernel_rfl) rfl (by kernel_rfl) (by kernel_rfl) (by kernel_rfl) (fun _ _ _ h => h) (by rfl) rfl ?_
              simp only [Act.put, List.setIfInBounds_toArray, List.set_cons_zero, List.set_cons_succ]
              refine wpG_pass preGr (i := 33) (by kernel_rfl) (some 81) (by kernel_rfl) rfl (by kernel_rfl) (by kernel_rfl) (by kernel_rfl) (fun _ _ _ h => h) (by rfl) rfl ?_
              simp only [Act.put, List.setIfInBounds_toArray, List.set_cons_zero, List.set_cons_succ]
              refine wpG_pass preGr (i := 34) (by kernel_rfl) (some 82) (by kernel_rfl) rfl (by kernel_rfl) (by kernel_rfl) (by kernel_rfl) (fun _ _ _ h => h) (by rfl) rfl ?_
              simp only [Act.put, List.setIfInBounds_toArray, List.set_cons_zero, List.set_cons_succ]
              refine wpG_pass preGr (i := 35) (by kernel_rfl) (some 83) (by kernel_rfl) rfl (by kernel_rfl) (by kernel_rfl) (by kernel_rfl) (fun _ _ _ h => h) (by rfl) rfl ?_
              simp only [Act.put, List.setIfInBounds_toArray, List.set_cons_zero, List.set_cons_succ]
              refine wpG_pass preGr (i := 36) (by kernel_rfl) (some 84) (by kernel_rfl) rfl (by kernel_rfl) (by kernel_rfl) (by kernel_rfl) (fun _ _ _ h => h) (by rfl) rfl ?_
              simp only [Act.put, List.setIfInBounds_toArray, List.set_cons_zero, List.set_cons_succ]
              refine wpG_pass preGr (i := 37) (by kernel_rfl) (some 85) (by kernel_rfl) rfl (by kernel_rfl) (by kernel_rfl) (by kernel_rfl) (fun _ _ _ h => h) (by rfl) rfl ?_
              simp only [Act.put, List.setIfInBounds_toArray, List.set_cons_zero, List.set_cons_succ]
              refine wpG_pass preGr (i := 38) (by kernel_rfl) (some 86) (by kernel_rfl) rfl (by kernel_rfl) (by kernel_rfl) (by kernel_rfl) (fun _ _ _ h => h) (by rfl) rfl ?_
              simp only [Act.put, List.setIfInBounds_toArray, List.set_cons_zero, List.set_cons_succ]
              -- 39: slot 87
              refine wpG_take preGr (i := 39) (v := ?_) (by kernel_rfl) (some 87) (by kernel_rfl) rfl (by kernel_rfl) (by kernel_rfl) (by kernel_rfl) (fun _ _ _ h => h) (by rfl) (fun w' hw' => ?_) rfl ?_
              rotate_left
              · go_simp
                with_reducible rfl
              simp only [Act.put, List.setIfInBounds_toArray, List.set_cons_zero, List.set_cons_succ]
              -- 40: slot 12
              refine wpG_take preGr (i := 40) (v := ?_) (by kernel_rfl) (some 12) (by kernel_rfl) rfl (by kernel_rfl) (by kernel_rfl) (by kernel_rfl) (fun _ _ _ h => h) (by rfl) (fun w' hw' => ?_) rfl ?_
              rotate_left
              · go_simp
                with_reducible rfl
              simp only [Act.put, List.setIfInBounds_toArray, List.set_cons_zero, List.set_cons_succ]
              refine wpG_done (by kernel_rfl) ?_ _
              go_wp2
              go_roundw
              case rel =>
                have HX := HFS.out
                first | exact ⟨k + 1, true, by omega, by go_num, rfl, HX, HB.out.drew⟩ | ((repeat apply Exists.intro); exact ⟨⟨k + 1, true, by omega, by go_num, rfl, HX, HB.out.drew⟩, rfl⟩)
              case measure => simp [intOf]; omega
            | false =>
              by_cases ht : r.typ = T
              · have hte : (r.typ == T) = true := by simpa using ht
                by_cases hs : r.size = (L : Int)
                · have hse : (r.size == (L : Int)) = true := by simpa using hs
                  have hL4 : L ≤ 4 := by
                    have h1 := HIS.out.2.2.2.1
                    rw [hs] at h1
                    omega
                  obtain ⟨tk, htk⟩ : ∃ t, t = takes r (num (T, l)) := ⟨_, rfl⟩
                  have HFS : Hid (tk = fitTo rs (T, l) (k + 1)) := by
                    show _ = _
                    rw [HST.out, htk]
                    have e : fits r (T, l) = true := decide_eq_true ⟨ht, by rw [hs]; exact congrArg Int.ofNat HLL.out.symm⟩
                    rw [e]; simp
                  have NU := Lib.hid (fun (w' : World) (hw : Below w4.heap.size w4 w') => lnumber_any T A L C l HLL.out hL4 w' (HBS.out.below hw))
                  have TKS := Lib.hid (fun (w' : World) => rtakes_any r (num (T, l)) w')
                  rw [← htk] at TKS
                  generalize num (T, l) = N at NU TKS
                  clear htk ht hs
                  go_upto_region 14 with fail
                  refine wp_region_G 41 Gr (by kernel_rfl) ?_
                  -- 0: slot 48
                  refine wpG_take preGr (i := 0) (v := ?_) (by kernel_rfl) (some 48) (by kernel_rfl) rfl (by kernel_rfl) (by kernel_rfl) (by kernel_rfl) (fun _ _ _ h => h) (by rfl) (fun w' hw' => ?_) rfl ?_
                  rotate_left
                  · try have g0 := cellB' (HB.out.drew.trans (hw'.mono HB.out.size)) hbl HC0.out
                    try have g1 := cellB' (HB.out.drew.trans (hw'.mono HB.out.size)) hbl HC1.out
                    try have g2 := cellB' (HB.out.drew.trans (hw'.mono HB.out.size)) hrbl HRC.out.1
                    try have g3 := cellB' (HB.out.drew.trans (hw'.mono HB.out.size)) hrbl HRC.out.2.1
                    try have g4 := cellB' (HB.out.drew.trans (hw'.mono HB.out.size)) hrbl HRC.out.2.2.1
                    try have g5 := cellB' (HB.out.drew.trans (hw'.mono HB.out.size)) hrbl HRC.out.2.2.2.1
                    try have g6 := cellB' (HB.out.drew.trans (hw'.mono HB.out.size)) hrbl HRC.out.2.2.2.2.1
                    try have g7 := cellB' (HB.out.drew.trans (hw'.mono HB.out.size)) hrbl HRC.out.2.2.2.2.2.1
                    try have g8 := cellB' (HB.out.drew.trans (hw'.mono HB.out.size)) hrbl HRC.out.2.2.2.2.2.2
                    go_simp
                    with_reducible rfl
                  simp only [Act.put, List.setIfInBounds_toArray, List.set_cons_zero, List.set_cons_succ]
                  -- 1: slot 49
                  refine wpG_take preGr (i := 1) (v := ?_) (by kernel_rfl) (some 49) (by kernel_rfl) rfl (by kernel_rfl) (by kernel_rfl) (by kernel_rfl) (fun _ _ _ h => h) (by rfl) (fun w' hw' => ?_) rfl ?_
                  rotate_left
                  · try have g0 := cellB' (HB.out.drew.trans (hw'.mono HB.out.size)) hbl HC0.out
                    try have g1 := cellB' (HB.out.drew.trans (hw'.mono HB.out.size)) hbl HC1.out
                    try have g2 := cellB' (HB.out.drew.trans (hw'.mono HB.out.size)) hrbl HRC.out.1
                    try have g3 := cellB' (HB.out.drew.trans (hw'.mono HB.out.size)) hrbl HRC.out.2.1
                    try have g4 := cellB' (HB.out.drew.trans (hw'.mono HB.out.size)) hrbl HRC.out.2.2.1
                    try have g5 := cellB' (HB.out.drew.trans (hw'.mono HB.out.size)) hrbl HRC.out.2.2.2.1
                    try have g6 := cellB' (HB.out.drew.trans (hw'.mono HB.out.size)) hrbl HRC.out.2.2.2.2.1
                    try have g7 := cellB' (HB.out.drew.trans (hw'.mono HB.out.size)) hrbl HRC.out.2.2.2.2.2.1
                    try have g8 := cellB' (HB.out.drew.trans (hw'.mono HB.out.size)) hrbl HRC.out.2.2.2.2.2.2
                    go_simp
                    with_reducible rfl
                  simp only [Act.put, List.setIfInBounds_toArray, List.set_cons_zero, List.set_cons_succ]
                  -- 2: slot 50
                  refine wpG_take preGr (i := 2) (v := ?_) (by kernel_rfl) (some 50) (by kernel_rfl) rfl (by kernel_rfl) (by kernel_rfl) (by kernel_rfl) (fun _ _ _ h => h) (by rfl) (fun w' hw' => ?_) rfl ?_
                  rotate_left
                  · try have g0 := cellB' (HB.out.drew.trans (hw'.mono HB.out.size)) hbl HC0.out
                    try have g1 := cellB' (HB.out.drew.trans (hw'.mono HB.out.size)) hbl HC1.out
                    try have g2 := cellB' (HB.out.drew.trans (hw'.mono HB.out.size)) hrbl HRC.out.1
                    try have g3 := cellB' (HB.out.drew.trans (hw'.mono HB.out.size)) hrbl HRC.out.2.1
                    try have g4 := cellB' (HB.out.drew.trans (hw'.mono HB.out.size)) hrbl HRC.out.2.2.1
                    try have g5 := cellB' (HB.out.drew.trans (hw'.mono HB.out.size)) hrbl HRC.out.2.2.2.1
                    try have g6 := cellB' (HB.out.drew.trans (hw'.mono HB.out.size)) hrbl HRC.out.2.2.2.2.1
                    try have g7 := cellB' (HB.out.drew.trans (hw'.mono HB.out.size)) hrbl HRC.out.2.2.2.2.2.1
                    try have g8 := cellB' (HB.out.drew.trans (hw'.mono HB.out.size)) hrbl HRC.out.2.2.2.2.2.2
                    go_simp
                    with_reducible rfl
                  simp only [Act.put, List.setIfInBounds_toArray, List.set_cons_zero, List.set_cons_succ]
                  -- 3: slot 51
                  refine wpG_take preGr (i := 3) (v := ?_) (by kernel_rfl) (some 51) (by kernel_rfl) rfl (by kernel_rfl) (by kernel_rfl) (by kernel_rfl) (fun _ _ _ h => h) (by rfl) (fun w' hw' => ?_) rfl ?_
                  rotate_left
                  · try have g0 := cellB' (HB.out.drew.trans (hw'.mono HB.out.size)) hbl HC0.out
                    try have g1 := cellB' (HB.out.drew.trans (hw'.mono HB.out.size)) hbl HC1.out
                    try have g2 := cellB' (HB.out.drew.trans (hw'.mono HB.out.size)) hrbl HRC.out.1
                    try have g3 := cellB' (HB.out.drew.trans (hw'.mono HB.out.size)) hrbl HRC.out.2.1
                    try have g4 := cellB' (HB.out.drew.trans (hw'.mono HB.out.size)) hrbl HRC.out.2.2.1
                    try have g5 := cellB' (HB.out.drew.trans (hw'.mono HB.out.size)) hrbl HRC.out.2.2.2.1
                    try have g6 := cellB' (HB.out.drew.trans (hw'.mono HB.out.size)) hrbl HRC.out.2.2.2.2.1
                    try have g7 := cellB' (HB.out.drew.trans (hw'.mono HB.out.size)) hrbl HRC.out.2.2.2.2.2.1
                    try have g8 := cellB' (HB.out.drew.trans (hw'.mono HB.out.size)) hrbl HRC.out.2.2.2.2.2.2
                    go_simp
                    with_reducible rfl
                  simp only [Act.put, List.setIfInBounds_toArray, List.set_cons_zero, List.set_cons_succ]
                  -- 4: slot 52
                  refine wpG_take preGr (i := 4) (v := ?_) (by kernel_rfl) (some 52) (by kernel_rfl) rfl (by kernel_rfl) (by kernel_rfl) (by kernel_rfl) (fun _ _ _ h => h) (by rfl) (fun w' hw' => ?_) rfl ?_
                  rotate_left
                  · try have g0 := cellB' (HB.out.drew.trans (hw'.mono HB.out.size)) hbl HC0.out
                    try have g1 := cellB' (HB.out.drew.trans (hw'.mono HB.out.size)) hbl HC1.out
                    try have g2 := cellB' (HB.out.drew.trans (hw'.mono HB.out.size)) hrbl HRC.out.1
                    try have g3 := cellB' (HB.out.drew.trans (hw'.mono HB.out.size)) hrbl HRC.out.2.1
                    try have g4 := cellB' (HB.out.drew.trans (hw'.mono HB.out.size)) hrbl HRC.out.2.2.1
                    try have g5 := cellB' (HB.out.drew.trans (hw'.mono HB.out.size)) hrbl HRC.out.2.2.2.1
                    try have g6 := cellB' (HB.out.drew.trans (hw'.mono HB.out.size)) hrbl HRC.out.2.2.2.2.1
                    try have g7 := cellB' (HB.out.drew.trans (hw'.mono HB.out.size)) hrbl HRC.out.2.2.2.2.2.1
                    try have g8 := cellB' (HB.out.drew.trans (hw'.mono HB.out.size)) hrbl HRC.out.2.2.2.2.2.2
                    go_simp
                    with_reducible rfl
                  simp only [Act.put, List.setIfInBounds_toArray, List.set_cons_zero, List.set_cons_succ]
                  -- 5: slot 53
                  refine wpG_take preGr (i := 5) (v := ?_) (by kernel_rfl) (some 53) (by kernel_rfl) rfl (by kernel_rfl) (by kernel_rfl) (by kernel_rfl) (fun _ _ _ h => h) (by rfl) (fun w' hw' => ?_) rfl ?_
                  rotate_left
                  · try have g0 := cellB' (HB.out.drew.trans (hw'.mono HB.out.size)) hbl HC0.out
                    try have g1 := cellB' (HB.out.drew.trans (hw'.mono HB.out.size)) hbl HC1.out
                    try have g2 := cellB' (HB.out.drew.trans (hw'.mono HB.out.size)) hrbl HRC.out.1
                    try have g3 := cellB' (HB.out.drew.trans (hw'.mono HB.out.size)) hrbl HRC.out.2.1
                    try have g4 := cellB' (HB.out.drew.trans (hw'.mono HB.out.size)) hrbl HRC.out.2.2.1
                    try have g5 := cellB' (HB.out.drew.trans (hw'.mono HB.out.size)) hrbl HRC.out.2.2.2.1
                    try have g6 := cellB' (HB.out.drew.trans (hw'.mono HB.out.size)) hrbl HRC.out.2.2.2.2.1
                    try have g7 := cellB' (HB.out.drew.trans (hw'.mono HB.out.size)) hrbl HRC.out.2.2.2.2.2.1
                    try have g8 := cellB' (HB.out.drew.trans (hw'.mono HB.out.size)) hrbl HRC.out.2.2.2.2.2.2
                    go_simp
                    with_reducible rfl
                  simp only [Act.put, List.setIfInBounds_toArray, List.set_cons_zero, List.set_cons_succ]
                  -- 6: slot 54
                  refine wpG_take preGr (i := 6) (v := ?_) (by kernel_rfl) (some 54) (by kernel_rfl) rfl (by kernel_rfl) (by kernel_rfl) (by kernel_rfl) (fun _ _ _ h => h) (by rfl) (fun w' hw' => ?_) rfl ?_
                  rotate_left
                  · try have g0 := cellB' (HB.out.drew.trans (hw'.mono HB.out.size)) hbl HC0.out
                    try have g1 := cellB' (HB.out.drew.trans (hw'.mono HB.out.size)) hbl HC1.out
                    try have g2 := cellB' (HB.out.drew.trans (hw'.mono HB.out.size)) hrbl HRC.out.1
                    try have g3 := cellB' (HB.out.drew.trans (hw'.mono HB.out.size)) hrbl HRC.out.2.1
                    try have g4 := cellB' (HB.out.drew.trans (hw'.mono HB.out.size)) hrbl HRC.out.2.2.1
                    try have g5 := cellB' (HB.out.drew.trans (hw'.mono HB.out.size)) hrbl HRC.out.2.2.2.1
                    try have g6 := cellB' (HB.out.drew.trans (hw'.mono HB.out.size)) hrbl HRC.out.2.2.2.2.1
                    try have g7 := cellB' (HB.out.drew.trans (hw'.mono HB.out.size)) hrbl HRC.out.2.2.2.2.2.1
                    try have g8 := cellB' (HB.out.drew.trans (hw'.mono HB.out.size)) hrbl HRC.out.2.2.2.2.2.2
                    go_simp
                    with_reducible rfl
                  simp only [Act.put, List.setIfInBounds_toArray, List.set_cons_zero, List.set_cons_succ]
                  -- 7: slot 55
                  refine wpG_take preGr (i := 7) (v := ?_) (by kernel_rfl) (some 55) (by kernel_rfl) rfl (by kernel_rfl) (by kernel_rfl) (by kernel_rfl) (fun _ _ _ h => h) (by rfl) (fun w' hw' => ?_) rfl ?_
                  rotate_left
                  · try have g0 := cellB' (HB.out.drew.trans (hw'.mono HB.out.size)) hbl HC0.out
                    try have g1 := cellB' (HB.out.drew.trans (hw'.mono HB.out.size)) hbl HC1.out
                    try have g2 := cellB' (HB.out.drew.trans (hw'.mono HB.out.size)) hrbl HRC.out.1
                    try have g3 := cellB' (HB.out.drew.trans (hw'.mono HB.out.size)) hrbl HRC.out.2.1
                    try have g4 := cellB' (HB.out.drew.trans (hw'.mono HB.out.size)) hrbl HRC.out.2.2.1
                    try have g5 := cellB' (HB.out.drew.trans (hw'.mono HB.out.size)) hrbl HRC.out.2.2.2.1
                    try have g6 := cellB' (HB.out.drew.trans (hw'.mono HB.out.size)) hrbl HRC.out.2.2.2.2.1
                    try have g7 := cellB' (HB.out.drew.trans (hw'.mono HB.out.size)) hrbl HRC.out.2.2.2.2.2.1
                    try have g8 := cellB' (HB.out.drew.trans (hw'.mono HB.out.size)) hrbl HRC.out.2.2.2.2.2.2
                    go_simp
                    with_reducible rfl
                  simp only [Act.put, List.setIfInBounds_toArray, List.set_cons_zero, List.set_cons_succ]
                  -- 8: slot 56
                  refine wpG_take preGr (i := 8) (v := ?_) (by kernel_rfl) (some 56) (by kernel_rfl) rfl (by kernel_rfl) (by kernel_rfl) (by kernel_rfl) (fun _ _ _ h => h) (by rfl) (fun w' hw' => ?_) rfl ?_
                  rotate_left
                  · try have g0 := cellB' (HB.out.drew.trans (hw'.mono HB.out.size)) hbl HC0.out
                    try have g1 := cellB' (HB.out.drew.trans (hw'.mono HB.out.size)) hbl HC1.out
                    try have g2 := cellB' (HB.out.drew.trans (hw'.mono HB.out.size)) hrbl HRC.out.1
                    try have g3 := cellB' (HB.out.drew.trans (hw'.mono HB.out.size)) hrbl HRC.out.2.1
                    try have g4 := cellB' (HB.out.drew.trans (hw'.mono HB.out.size)) hrbl HRC.out.2.2.1
                    try have g5 := cellB' (HB.out.drew.trans (hw'.mono HB.out.size)) hrbl HRC.out.2.2.2.1
                    try have g6 := cellB' (HB.out.drew.trans (hw'.mono HB.out.size)) hrbl HRC.out.2.2.2.2.1
                    try have g7 := cellB' (HB.out.drew.trans (hw'.mono HB.out.size)) hrbl HRC.out.2.2.2.2.2.1
                    try have g8 := cellB' (HB.out.drew.trans (hw'.mono HB.out.size)) hrbl HRC.out.2.2.2.2.2.2
                    go_simp
                    with_reducible rfl
                  simp only [Act.put, List.setIfInBounds_toArray, List.set_cons_zero, List.set_cons_succ]
                  -- 9: slot 57
                  refine wpG_take preGr (i := 9) (v := ?_) (by kernel_rfl) (some 57) (by kernel_rfl) rfl (by kernel_rfl) (by kernel_rfl) (by kernel_rfl) (fun _ _ _ h => h) (by rfl) (fun w' hw' => ?_) rfl ?_
                  rotate_left
                  · try have g0 := cellB' (HB.out.drew.trans (hw'.mono HB.out.size)) hbl HC0.out
                    try have g1 := cellB' (HB.out.drew.trans (hw'.mono HB.out.size)) hbl HC1.out
                    try have g2 := cellB' (HB.out.drew.trans (hw'.mono HB.out.size)) hrbl HRC.out.1
                    try have g3 := cellB' (HB.out.drew.trans (hw'.mono HB.out.size)) hrbl HRC.out.2.1
                    try have g4 := cellB' (HB.out.drew.trans (hw'.mono HB.out.size)) hrbl HRC.out.2.2.1
                    try have g5 := cellB' (HB.out.drew.trans (hw'.mono HB.out.size)) hrbl HRC.out.2.2.2.1
                    try have g6 := cellB' (HB.out.drew.trans (hw'.mono HB.out.size)) hrbl HRC.out.2.2.2.2.1
                    try have g7 := cellB' (HB.out.drew.trans (hw'.mono HB.out.size)) hrbl HRC.out.2.2.2.2.2.1
                    try have g8 := cellB' (HB.out.drew.trans (hw'.mono HB.out.size)) hrbl HRC.out.2.2.2.2.2.2
                    go_simp
                    with_reducible rfl
                  simp only [Act.put, List.setIfInBounds_toArray, List.set_cons_zero, List.set_cons_succ]
                  -- 10: slot 58
                  refine wpG_take preGr (i := 10) (v := ?_) (by kernel_rfl) (some 58) (by kernel_rfl) rfl (by kernel_rfl) (by kernel_rfl) (by kernel_rfl) (fun _ _ _ h => h) (by rfl) (fun w' hw' => ?_) rfl ?_
                  rotate_left
                  · try have g0 := cellB' (HB.out.drew.trans (hw'.mono HB.out.size)) hbl HC0.out
                    try have g1 := cellB' (HB.out.drew.trans (hw'.mono HB.out.size)) hbl HC1.out
                    try have g2 := cellB' (HB.out.drew.trans (hw'.mono HB.out.size)) hrbl HRC.out.1
                    try have g3 := cellB' (HB.out.drew.trans (hw'.mono HB.out.size)) hrbl HRC.out.2.1
                    try have g4 := cellB' (HB.out.drew.trans (hw'.mono HB.out.size)) hrbl HRC.out.2.2.1
                    try have g5 := cellB' (HB.out.drew.trans (hw'.mono HB.out.size)) hrbl HRC.out.2.2.2.1
                    try have g6 := cellB' (HB.out.drew.trans (hw'.mono HB.out.size)) hrbl HRC.out.2.2.2.2.1
                    try have g7 := cellB' (HB.out.drew.trans (hw'.mono HB.out.size)) hrbl HRC.out.2.2.2.2.2.1
                    try have g8 := cellB' (HB.out.drew.trans (hw'.mono HB.out.size)) hrbl HRC.out.2.2.2.2.2.2
                    go_simp
                    with_reducible rfl
                  simp only [Act.put, List.setIfInBounds_toArray, List.set_cons_zero, List.set_cons_succ]
                  -- 11: slot 59
                  refine wpG_take preGr (i := 11) (v := ?_) (by kernel_rfl) (some 59) (by kernel_rfl) rfl (by kernel_rfl) (by kernel_rfl) (by kernel_rfl) (fun _ _ _ h => h) (by rfl) (fun w' hw' => ?_) rfl ?_
                  rotate_left
                  · try have g0 := cellB' (HB.out.drew.trans (hw'.mono HB.out.size)) hbl HC0.out
                    try have g1 := cellB' (HB.out.drew.trans (hw'.mono HB.out.size)) hbl HC1.out
                    try have g2 := cellB' (HB.out.drew.trans (hw'.mono HB.out.size)) hrbl HRC.out.1
                    try have g3 := cellB' (HB.out.drew.trans (hw'.mono HB.out.size)) hrbl HRC.out.2.1
                    try have g4 := cellB' (HB.out.drew.trans (hw'.mono HB.out.size)) hrbl HRC.out.2.2.1
                    try have g5 := cellB' (HB.out.drew.trans (hw'.mono HB.out.size)) hrbl HRC.out.2.2.2.1
                    try have g6 := cellB' (HB.out.drew.trans (hw'.mono HB.out.size)) hrbl HRC.out.2.2.2.2.1
                    try have g7 := cellB' (HB.out.drew.trans (hw'.mono HB.out.size)) hrbl HRC.out.2.2.2.2.2.1
                    try have g8 := cellB' (HB.out.drew.trans (hw'.mono HB.out.size)) hrbl HRC.out.2.2.2.2.2.2
                    go_simp
                    with_reducible rfl
                  simp only [Act.put, List.setIfInBounds_toArray, List.set_cons_zero, List.set_cons_succ]
                  -- 12: slot 60
                  refine wpG_take preGr (i := 12) (v := ?_) (by kernel_rfl) (some 60) (by kernel_rfl) rfl (by kernel_rfl) (by kernel_rfl) (by kernel_rfl) (fun _ _ _ h => h) (by rfl) (fun w' hw' => ?_) rfl ?_
                  rotate_left
                  · try have g0 := cellB' (HB.out.drew.trans (hw'.mono HB.out.size)) hbl HC0.out
                    try have g1 := cellB' (HB.out.drew.trans (hw'.mono HB.out.size)) hbl HC1.out
                    try have g2 := cellB' (HB.out.drew.trans (hw'.mono HB.out.size)) hrbl HRC.out.1
                    try have g3 := cellB' (HB.out.drew.trans (hw'.mono HB.out.size)) hrbl HRC.out.2.1
                    try have g4 := cellB' (HB.out.drew.trans (hw'.mono HB.out.size)) hrbl HRC.out.2.2.1
                    try have g5 := cellB' (HB.out.drew.trans (hw'.mono HB.out.size)) hrbl HRC.out.2.2.2.1
                    try have g6 := cellB' (HB.out.drew.trans (hw'.mono HB.out.size)) hrbl HRC.out.2.2.2.2.1
                    try have g7 := cellB' (HB.out.drew.trans (hw'.mono HB.out.size)) hrbl HRC.out.2.2.2.2.2.1
                    try have g8 := cellB' (HB.out.drew.trans (hw'.mono HB.out.size)) hrbl HRC.out.2.2.2.2.2.2
                    go_simp
                    with_reducible rfl
                  simp only [Act.put, List.setIfInBounds_toArray, List.set_cons_zero, List.set_cons_succ]
                  -- 13: slot 61
                  refine wpG_take preGr (i := 13) (v := ?_) (by kernel_rfl) (some 61) (by kernel_rfl) rfl (by kernel_rfl) (by kernel_rfl) (by kernel_rfl) (fun _ _ _ h => h) (by rfl) (fun w' hw' => ?_) rfl ?_
                  rotate_left
                  · try have g0 := cellB' (HB.out.drew.trans (hw'.mono HB.out.size)) hbl HC0.out
                    try have g1 := cellB' (HB.out.drew.trans (hw'.mono HB.out.size)) hbl HC1.out
                    try have g2 := cellB' (HB.out.drew.trans (hw'.mono HB.out.size)) hrbl HRC.out.1
                    try have g3 := cellB' (HB.out.drew.trans (hw'.mono HB.out.size)) hrbl HRC.out.2.1
                    try have g4 := cellB' (HB.out.drew.trans (hw'.mono HB.out.size)) hrbl HRC.out.2.2.1
                    try have g5 := cellB' (HB.out.drew.trans (hw'.mono HB.out.size)) hrbl HRC.out.2.2.2.1
                    try have g6 := cellB' (HB.out.drew.trans (hw'.mono HB.out.size)) hrbl HRC.out.2.2.2.2.1
                    try have g7 := cellB' (HB.out.drew.trans (hw'.mono HB.out.size)) hrbl HRC.out.2.2.2.2.2.1
                    try have g8 := cellB' (HB.out.drew.trans (hw'.mono HB.out.size)) hrbl HRC.out.2.2.2.2.2.2
                    go_simp
                    with_reducible rfl
                  simp only [Act.put, List.setIfInBounds_toArray, List.set_cons_zero, List.set_cons_succ]
                  -- 14: slot 62
                  refine wpG_take preGr (i := 14) (v := ?_) (by kernel_rfl) (some 62) (by kernel_rfl) rfl (by kernel_rfl) (by kernel_rfl) (by kernel_rfl) (fun _ _ _ h => h) (by rfl) (fun w' hw' => ?_) rfl ?_
                  rotate_left
                  · try have g0 := cellB' (HB.out.drew.trans (hw'.mono HB.out.size)) hbl HC0.out
                    try have g1 := cellB' (HB.out.drew.trans (hw'.mono HB.out.size)) hbl HC1.out
                    try have g2 := cellB' (HB.out.drew.trans (hw'.mono HB.out.size)) hrbl HRC.out.1
                    try have g3 := cellB' (HB.out.drew.trans (hw'.mono HB.out.size)) hrbl HRC.out.2.1
                    try have g4 := cellB' (HB.out.drew.trans (hw'.mono HB.out.size)) hrbl HRC.out.2.2.1
                    try have g5 := cellB' (HB.out.drew.trans (hw'.mono HB.out.size)) hrbl HRC.out.2.2.2.1
                    try have g6 := cellB' (HB.out.drew.trans (hw'.mono HB.out.size)) hrbl HRC.out.2.2.2.2.1
                    try have g7 := cellB' (HB.out.drew.trans (hw'.mono HB.out.size)) hrbl HRC.out.2.2.2.2.2.1
                    try have g8 := cellB' (HB.out.drew.trans (hw'.mono HB.out.size)) hrbl HRC.out.2.2.2.2.2.2
                    go_simp
                    with_reducible rfl
                  simp only [Act.put, List.setIfInBounds_toArray, List.set_cons_zero, List.set_cons_succ]
                  -- 15: slot 63
                  refine wpG_take preGr (i := 15) (v := ?_) (by kernel_rfl) (some 63) (by kernel_rfl) rfl (by kernel_rfl) (by kernel_rfl) (by kernel_rfl) (fun _ _ _ h => h) (by rfl) (fun w' hw' => ?_) rfl ?_
                  rotate_left
                  · try have g0 := cellB' (HB.out.drew.trans (hw'.mono HB.out.size)) hbl HC0.out
                    try have g1 := cellB' (HB.out.drew.trans (hw'.mono HB.out.size)) hbl HC1.out
                    try have g2 := cellB' (HB.out.drew.trans (hw'.mono HB.out.size)) hrbl HRC.out.1
                    try have g3 := cellB' (HB.out.drew.trans (hw'.mono HB.out.size)) hrbl HRC.out.2.1
                    try have g4 := cellB' (HB.out.drew.trans (hw'.mono HB.out.size)) hrbl HRC.out.2.2.1
                    try have g5 := cellB' (HB.out.drew.trans (hw'.mono HB.out.size)) hrbl HRC.out.2.2.2.1
                    try have g6 := cellB' (HB.out.drew.trans (hw'.mono HB.out.size)) hrbl HRC.out.2.2.2.2.1
                    try have g7 := cellB' (HB.out.drew.trans (hw'.mono HB.out.size)) hrbl HRC.out.2.2.2.2.2.1
                    try have g8 := cellB' (HB.out.drew.trans (hw'.mono HB.out.size)) hrbl HRC.out.2.2.2.2.2.2
                    go_simp
                    with_reducible rfl
                  simp only [Act.put, List.setIfInBounds_toArray, List.set_cons_zero, List.set_cons_succ]
                  -- 16: slot 64
                  refine wpG_take preGr (i := 16) (v := ?_) (by kernel_rfl) (some 64) (by kernel_rfl) rfl (by kernel_rfl) (by kernel_rfl) (by kernel_rfl) (fun _ _ _ h => h) (by rfl) (fun w' hw' => ?_) rfl ?_
                  rotate_left
                  · try have g0 := cellB' (HB.out.drew.trans (hw'.mono HB.out.size)) hbl HC0.out
                    try have g1 := cellB' (HB.out.drew.trans (hw'.mono HB.out.size)) hbl HC1.out
                    try have g2 := cellB' (HB.out.drew.trans (hw'.mono HB.out.size)) hrbl HRC.out.1
                    try have g3 := cellB' (HB.out.drew.trans (hw'.mono HB.out.size)) hrbl HRC.out.2.1
                    try have g4 := cellB' (HB.out.drew.trans (hw'.mono HB.out.size)) hrbl HRC.out.2.2.1
                    try have g5 := cellB' (HB.out.drew.trans (hw'.mono HB.out.size)) hrbl HRC.out.2.2.2.1
                    try have g6 := cellB' (HB.out.drew.trans (hw'.mono HB.out.size)) hrbl HRC.out.2.2.2.2.1
                    try have g7 := cellB' (HB.out.drew.trans (hw'.mono HB.out.size)) hrbl HRC.out.2.2.2.2.2.1
                    try have g8 := cellB' (HB.out.drew.trans (hw'.mono HB.out.size)) hrbl HRC.out.2.2.2.2.2.2
                    go_simp
                    with_reducible rfl
                  simp only [Act.put, List.setIfInBounds_toArray, List.set_cons_zero, List.set_cons_succ]
                  -- 17: slot 65
                  refine wpG_take preGr (i := 17) (v := ?_) (by kernel_rfl) (some 65) (by kernel_rfl) rfl (by kernel_rfl) (by kernel_rfl) (by kernel_rfl) (fun _ _ _ h => h) (by rfl) (fun w' hw' => ?_) rfl ?_
                  rotate_left
                  · try have g0 := cellB' (HB.out.drew.trans (hw'.mono HB.out.size)) hbl HC0.out
                    try have g1 := cellB' (HB.out.drew.trans (hw'.mono HB.out.size)) hbl HC1.out
                    try have g2 := cellB' (HB.out.drew.trans (hw'.mono HB.out.size)) hrbl HRC.out.1
                    try have g3 := cellB' (HB.out.drew.trans (hw'.mono HB.out.size)) hrbl HRC.out.2.1
                    try have g4 := cellB' (HB.out.drew.trans (hw'.mono HB.out.size)) hrbl HRC.out.2.2.1
                    try have g5 := cellB' (HB.out.drew.trans (hw'.mono HB.out.size)) hrbl HRC.out.2.2.2.1
                    try have g6 := cellB' (HB.out.drew.trans (hw'.mono HB.out.size)) hrbl HRC.out.2.2.2.2.1
                    try have g7 := cellB' (HB.out.drew.trans (hw'.mono HB.out.size)) hrbl HRC.out.2.2.2.2.2.1
                    try have g8 := cellB' (HB.out.drew.trans (hw'.mono HB.out.size)) hrbl HRC.out.2.2.2.2.2.2
                    go_simp
                    with_reducible rfl
                  simp only [Act.put, List.setIfInBounds_toArray, List.set_cons_zero, List.set_cons_succ]
                  -- 18: slot 66
                  refine wpG_take preGr (i := 18) (v := ?_) (by kernel_rfl) (some 66) (by kernel_rfl) rfl (by kernel_rfl) (by kernel_rfl) (by kernel_rfl) (fun _ _ _ h => h) (by rfl) (fun w' hw' => ?_) rfl ?_
                  rotate_left
                  · try have g0 := cellB' (HB.out.drew.trans (hw'.mono HB.out.size)) hbl HC0.out
                    try have g1 := cellB' (HB.out.drew.trans (hw'.mono HB.out.size)) hbl HC1.out
                    try have g2 := cellB' (HB.out.drew.trans (hw'.mono HB.out.size)) hrbl HRC.out.1
                    try have g3 := cellB' (HB.out.drew.trans (hw'.mono HB.out.size)) hrbl HRC.out.2.1
                    try have g4 := cellB' (HB.out.drew.trans (hw'.mono HB.out.size)) hrbl HRC.out.2.2.1
                    try have g5 := cellB' (HB.out.drew.trans (hw'.mono HB.out.size)) hrbl HRC.out.2.2.2.1
                    try have g6 := cellB' (HB.out.drew.trans (hw'.mono HB.out.size)) hrbl HRC.out.2.2.2.2.1
                    try have g7 := cellB' (HB.out.drew.trans (hw'.mono HB.out.size)) hrbl HRC.out.2.2.2.2.2.1
                    try have g8 := cellB' (HB.out.drew.trans (hw'.mono HB.out.size)) hrbl HRC.out.2.2.2.2.2.2
                    go_simp
                    with_reducible rfl
                  simp only [Act.put, List.setIfInBounds_toArray, List.set_cons_zero, List.set_cons_succ]
                  -- 19: slot 67
                  refine wpG_take preGr (i := 19) (v := ?_) (by kernel_rfl) (some 67) (by kernel_rfl) rfl (by kernel_rfl) (by kernel_rfl) (by kernel_rfl) (fun _ _ _ h => h) (by rfl) (fun w' hw' => ?_) rfl ?_
                  rotate_left
                  · try have g0 := cellB' (HB.out.drew.trans (hw'.mono HB.out.size)) hbl HC0.out
                    try have g1 := cellB' (HB.out.drew.trans (hw'.mono HB.out.size)) hbl HC1.out
                    try have g2 := cellB' (HB.out.drew.trans (hw'.mono HB.out.size)) hrbl HRC.out.1
                    try have g3 := cellB' (HB.out.drew.trans (hw'.mono HB.out.size)) hrbl HRC.out.2.1
                    try have g4 := cellB' (HB.out.drew.trans (hw'.mono HB.out.size)) hrbl HRC.out.2.2.1
                    try have g5 := cellB' (HB.out.drew.trans (hw'.mono HB.out.size)) hrbl HRC.out.2.2.2.1
                    try have g6 := cellB' (HB.out.drew.trans (hw'.mono HB.out.size)) hrbl HRC.out.2.2.2.2.1
                    try have g7 := cellB' (HB.out.drew.trans (hw'.mono HB.out.size)) hrbl HRC.out.2.2.2.2.2.1
                    try have g8 := cellB' (HB.out.drew.trans (hw'.mono HB.out.size)) hrbl HRC.out.2.2.2.2.2.2
                    go_simp
                    with_reducible rfl
                  simp only [Act.put, List.setIfInBounds_toArray, List.set_cons_zero, List.set_cons_succ]
                  -- 20: slot 68
                  refine wpG_take preGr (i := 20) (v := ?_) (by kernel_rfl) (some 68) (by kernel_rfl) rfl (by kernel_rfl) (by kernel_rfl) (by kernel_rfl) (fun _ _ _ h => h) (by rfl) (fun w' hw' => ?_) rfl ?_
                  rotate_left
                  · try have g0 := cellB' (HB.out.drew.trans (hw'.mono HB.out.size)) hbl HC0.out
                    try have g1 := cellB' (HB.out.drew.trans (hw'.mono HB.out.size)) hbl HC1.out
                    try have g2 := cellB' (HB.out.drew.trans (hw'.mono HB.out.size)) hrbl HRC.out.1
                    try have g3 := cellB' (HB.out.drew.trans (hw'.mono HB.out.size)) hrbl HRC.out.2.1
                    try have g4 := cellB' (HB.out.drew.trans (hw'.mono HB.out.size)) hrbl HRC.out.2.2.1
                    try have g5 := cellB' (HB.out.drew.trans (hw'.mono HB.out.size)) hrbl HRC.out.2.2.2.1
                    try have g6 := cellB' (HB.out.drew.trans (hw'.mono HB.out.size)) hrbl HRC.out.2.2.2.2.1
                    try have g7 := cellB' (HB.out.drew.trans (hw'.mono HB.out.size)) hrbl HRC.out.2.2.2.2.2.1
                    try have g8 := cellB' (HB.out.drew.trans (hw'.mono HB.out.size)) hrbl HRC.out.2.2.2.2.2.2
                    go_simp
                    with_reducible rfl
                  simp only [Act.put, List.setIfInBounds_toArray, List.set_cons_zero, List.set_cons_succ]
                  -- 21: slot 69
                  refine wpG_take preGr (i := 21) (v := ?_) (by kernel_rfl) (some 69) (by kernel_rfl) rfl (by kernel_rfl) (by kernel_rfl) (by kernel_rfl) (fun _ _ _ h => h) (by rfl) (fun w' hw' => ?_) rfl ?_
                  rotate_left
                  · try have g0 := cellB' (HB.out.drew.trans (hw'.mono HB.out.size)) hbl HC0.out
                    try have g1 := cellB' (HB.out.drew.trans (hw'.mono HB.out.size)) hbl HC1.out
                    try have g2 := cellB' (HB.out.drew.trans (hw'.mono HB.out.size)) hrbl HRC.out.1
                    try have g3 := cellB' (HB.out.drew.trans (hw'.mono HB.out.size)) hrbl HRC.out.2.1
                    try have g4 := cellB' (HB.out.drew.trans (hw'.mono HB.out.size)) hrbl HRC.out.2.2.1
                    try have g5 := cellB' (HB.out.drew.trans (hw'.mono HB.out.size)) hrbl HRC.out.2.2.2.1
                    try have g6 := cellB' (HB.out.drew.trans (hw'.mono HB.out.size)) hrbl HRC.out.2.2.2.2.1
                    try have g7 := cellB' (HB.out.drew.trans (hw'.mono HB.out.size)) hrbl HRC.out.2.2.2.2.2.1
                    try have g8 := cellB' (HB.out.drew.trans (hw'.mono HB.out.size)) hrbl HRC.out.2.2.2.2.2.2
                    go_simp
                    with_reducible rfl
                  simp only [Act.put, List.setIfInBounds_toArray, List.set_cons_zero, List.set_cons_succ]
                  -- 22: slot 70
                  refine wpG_take preGr (i := 22) (v := ?_) (by kernel_rfl) (some 70) (by kernel_rfl) rfl (by kernel_rfl) (by kernel_rfl) (by kernel_rfl) (fun _ _ _ h => h) (by rfl) (fun w' hw' => ?_) rfl ?_
                  rotate_left
                  · try have g0 := cellB' (HB.out.drew.trans (hw'.mono HB.out.size)) hbl HC0.out
                    try have g1 := cellB' (HB.out.drew.trans (hw'.mono HB.out.size)) hbl HC1.out
                    try have g2 := cellB' (HB.out.drew.trans (hw'.mono HB.out.size)) hrbl HRC.out.1
                    try have g3 := cellB' (HB.out.drew.trans (hw'.mono HB.out.size)) hrbl HRC.out.2.1
                    try have g4 := cellB' (HB.out.drew.trans (hw'.mono HB.out.size)) hrbl HRC.out.2.2.1
                    try have g5 := cellB' (HB.out.drew.trans (hw'.mono HB.out.size)) hrbl HRC.out.2.2.2.1
                    try have g6 := cellB' (HB.out.drew.trans (hw'.mono HB.out.size)) hrbl HRC.out.2.2.2.2.1
                    try have g7 := cellB' (HB.out.drew.trans (hw'.mono HB.out.size)) hrbl HRC.out.2.2.2.2.2.1
                    try have g8 := cellB' (HB.out.drew.trans (hw'.mono HB.out.size)) hrbl HRC.out.2.2.2.2.2.2
                    go_simp
                    with_reducible rfl
                  simp only [Act.put, List.setIfInBounds_toArray, List.set_cons_zero, List.set_cons_succ]
                  -- 23: slot 71
                  refine wpG_take preGr (i := 23) (v := ?_) (by kernel_rfl) (some 71) (by kernel_rfl) rfl (by kernel_rfl) (by kernel_rfl) (by kernel_rfl) (fun _ _ _ h => h) (by rfl) (fun w' hw' => ?_) rfl ?_
                  rotate_left
                  · try have g0 := cellB' (HB.out.drew.trans (hw'.mono HB.out.size)) hbl HC0.out
                    try have g1 := cellB' (HB.out.drew.trans (hw'.mono HB.out.size)) hbl HC1.out
                    try have g2 := cellB' (HB.out.drew.trans (hw'.mono HB.out.size)) hrbl HRC.out.1
                    try have g3 := cellB' (HB.out.drew.trans (hw'.mono HB.out.size)) hrbl HRC.out.2.1
                    try have g4 := cellB' (HB.out.drew.trans (hw'.mono HB.out.size)) hrbl HRC.out.2.2.1
                    try have g5 := cellB' (HB.out.drew.trans (hw'.mono HB.out.size)) hrbl HRC.out.2.2.2.1
                    try have g6 := cellB' (HB.out.drew.trans (hw'.mono HB.out.size)) hrbl HRC.out.2.2.2.2.1
                    try have g7 := cellB' (HB.out.drew.trans (hw'.mono HB.out.size)) hrbl HRC.out.2.2.2.2.2.1
                    try have g8 := cellB' (HB.out.drew.trans (hw'.mono HB.out.size)) hrbl HRC.out.2.2.2.2.2.2
                    go_simp
                    with_reducible rfl
                  simp only [Act.put, List.setIfInBounds_toArray, List.set_cons_zero, List.set_cons_succ]
                  -- 24: slot 72
                  refine wpG_take preGr (i := 24) (v := ?_) (by kernel_rfl) (some 72) (by kernel_rfl) rfl (by kernel_rfl) (by kernel_rfl) (by kernel_rfl) (fun _ _ _ h => h) (by rfl) (fun w' hw' => ?_) rfl ?_
                  rotate_left
                  · try have g0 := cellB' (HB.out.drew.trans (hw'.mono HB.out.size)) hbl HC0.out
                    try have g1 := cellB' (HB.out.drew.trans (hw'.mono HB.out.size)) hbl HC1.out
                    try have g2 := cellB' (HB.out.drew.trans (hw'.mono HB.out.size)) hrbl HRC.out.1
                    try have g3 := cellB' (HB.out.drew.trans (hw'.mono HB.out.size)) hrbl HRC.out.2.1
                    try have g4 := cellB' (HB.out.drew.trans (hw'.mono HB.out.size)) hrbl HRC.out.2.2.1
                    try have g5 := cellB' (HB.out.drew.trans (hw'.mono HB.out.size)) hrbl HRC.out.2.2.2.1
                    try have g6 := cellB' (HB.out.drew.trans (hw'.mono HB.out.size)) hrbl HRC.out.2.2.2.2.1
                    try have g7 := cellB' (HB.out.drew.trans (hw'.mono HB.out.size)) hrbl HRC.out.2.2.2.2.2.1
                    try have g8 := cellB' (HB.out.drew.trans (hw'.mono HB.out.size)) hrbl HRC.out.2.2.2.2.2.2
                    go_simp
                    with_reducible rfl
                  simp only [Act.put, List.setIfInBounds_toArray, List.set_cons_zero, List.set_cons_succ]
                  -- 25: slot 73
                  refine wpG_take preGr (i := 25) (v := ?_) (by kernel_rfl) (some 73) (by kernel_rfl) rfl (by kernel_rfl) (by kernel_rfl) (by kernel_rfl) (fun _ _ _ h => h) (by rfl) (fun w' hw' => ?_) rfl ?_
                  rotate_left
                  · try have g0 := cellB' (HB.out.drew.trans (hw'.mono HB.out.size)) hbl HC0.out
                    try have g1 := cellB' (HB.out.drew.trans (hw'.mono HB.out.size)) hbl HC1.out
                    try have g2 := cellB' (HB.out.drew.trans (hw'.mono HB.out.size)) hrbl HRC.out.1
                    try have g3 := cellB' (HB.out.drew.trans (hw'.mono HB.out.size)) hrbl HRC.out.2.1
                    try have g4 := cellB' (HB.out.drew.trans (hw'.mono HB.out.size)) hrbl HRC.out.2.2.1
                    try have g5 := cellB' (HB.out.drew.trans (hw'.mono HB.out.size)) hrbl HRC.out.2.2.2.1
                    try have g6 := cellB' (HB.out.drew.trans (hw'.mono HB.out.size)) hrbl HRC.out.2.2.2.2.1
                    try have g7 := cellB' (HB.out.drew.trans (hw'.mono HB.out.size)) hrbl HRC.out.2.2.2.2.2.1
                    try have g8 := cellB' (HB.out.drew.trans (hw'.mono HB.out.size)) hrbl HRC.out.2.2.2.2.2.2
                    go_simp
                    with_reducible rfl
                  simp only [Act.put, List.setIfInBounds_toArray, List.set_cons_zero, List.set_cons_succ]
                  -- 26: slot 74
                  refine wpG_take preGr (i := 26) (v := ?_) (by kernel_rfl) (some 74) (by kernel_rfl) rfl (by kernel_rfl) (by kernel_rfl) (by kernel_rfl) (fun _ _ _ h => h) (by rfl) (fun w' hw' => ?_) rfl ?_
                  rotate_left
                  · try have g0 := cellB' (HB.out.drew.trans (hw'.mono HB.out.size)) hbl HC0.out
                    try have g1 := cellB' (HB.out.drew.trans (hw'.mono HB.out.size)) hbl HC1.out
                    try have g2 := cellB' (HB.out.drew.trans (hw'.mono HB.out.size)) hrbl HRC.out.1
                    try have g3 := cellB' (HB.out.drew.trans (hw'.mono HB.out.size)) hrbl HRC.out.2.1
                    try have g4 := cellB' (HB.out.drew.trans (hw'.mono HB.out.size)) hrbl HRC.out.2.2.1
                    try have g5 := cellB' (HB.out.drew.trans (hw'.mono HB.out.size)) hrbl HRC.out.2.2.2.1
                    try have g6 := cellB' (HB.out.drew.trans (hw'.mono HB.out.size)) hrbl HRC.out.2.2.2.2.1
                    try have g7 := cellB' (HB.out.drew.trans (hw'.mono HB.out.size)) hrbl HRC.out.2.2.2.2.2.1
                    try have g8 := cellB' (HB.out.drew.trans (hw'.mono HB.out.size)) hrbl HRC.out.2.2.2.2.2.2
                    go_simp
                    with_reducible rfl
                  simp only [Act.put, List.setIfInBounds_toArray, List.set_cons_zero, List.set_cons_succ]
                  -- 27: slot 75
                  refine wpG_take preGr (i := 27) (v := ?_) (by kernel_rfl) (some 75) (by kernel_rfl) rfl (by kernel_rfl) (by kernel_rfl) (by kernel_rfl) (fun _ _ _ h => h) (by rfl) (fun w' hw' => ?_) rfl ?_
                  rotate_left
                  · try have g0 := cellB' (HB.out.drew.trans (hw'.mono HB.out.size)) hbl HC0.out
                    try have g1 := cellB' (HB.out.drew.trans (hw'.mono HB.out.size)) hbl HC1.out
                    try have g2 := cellB' (HB.out.drew.trans (hw'.mono HB.out.size)) hrbl HRC.out.1
                    try have g3 := cellB' (HB.out.drew.trans (hw'.mono HB.out.size)) hrbl HRC.out.2.1
                    try have g4 := cellB' (HB.out.drew.trans (hw'.mono HB.out.size)) hrbl HRC.out.2.2.1
                    try have g5 := cellB' (HB.out.drew.trans (hw'.mono HB.out.size)) hrbl HRC.out.2.2.2.1
                    try have g6 := cellB' (HB.out.drew.trans (hw'.mono HB.out.size)) hrbl HRC.out.2.2.2.2.1
                    try have g7 := cellB' (HB.out.drew.trans (hw'.mono HB.out.size)) hrbl HRC.out.2.2.2.2.2.1
                    try have g8 := cellB' (HB.out.drew.trans (hw'.mono HB.out.size)) hrbl HRC.out.2.2.2.2.2.2
                    go_simp
                    with_reducible rfl
                  simp only [Act.put, List.setIfInBounds_toArray, List.set_cons_zero, List.set_cons_succ]
                  -- 28: slot 76
                  refine wpG_take preGr (i := 28) (v := ?_) (by kernel_rfl) (some 76) (by kernel_rfl) rfl (by kernel_rfl) (by kernel_rfl) (by kernel_rfl) (fun _ _ _ h => h) (by rfl) (fun w' hw' => ?_) rfl ?_
                  rotate_left
                  · try have g0 := cellB' (HB.out.drew.trans (hw'.mono HB.out.size)) hbl HC0.out
                    try have g1 := cellB' (HB.out.drew.trans (hw'.mono HB.out.size)) hbl HC1.out
                    try have g2 := cellB' (HB.out.drew.trans (hw'.mono HB.out.size)) hrbl HRC.out.1
                    try have g3 := cellB' (HB.out.drew.trans (hw'.mono HB.out.size)) hrbl HRC.out.2.1
                    try have g4 := cellB' (HB.out.drew.trans (hw'.mono HB.out.size)) hrbl HRC.out.2.2.1
                    try have g5 := cellB' (HB.out.drew.trans (hw'.mono HB.out.size)) hrbl HRC.out.2.2.2.1
                    try have g6 := cellB' (HB.out.drew.trans (hw'.mono HB.out.size)) hrbl HRC.out.2.2.2.2.1
                    try have g7 := cellB' (HB.out.drew.trans (hw'.mono HB.out.size)) hrbl HRC.out.2.2.2.2.2.1
                    try have g8 := cellB' (HB.out.drew.trans (hw'.mono HB.out.size)) hrbl HRC.out.2.2.2.2.2.2
                    go_simp
                    with_reducible rfl
                  simp only [Act.put, List.setIfInBounds_toArray, List.set_cons_zero, List.set_cons_succ]
                  -- 29: slot 77
                  refine wpG_take preGr (i := 29) (v := ?_) (by kernel_rfl) (some 77) (by kernel_rfl) rfl (by kernel_rfl) (by kernel_rfl) (by kernel_rfl) (fun _ _ _ h => h) (by rfl) (fun w' hw' => ?_) rfl ?_
                  rotate_left
                  · try have g0 := cellB' (HB.out.drew.trans (hw'.mono HB.out.size)) hbl HC0.out
                    try have g1 := cellB' (HB.out.drew.trans (hw'.mono HB.out.size)) hbl HC1.out
                    try have g2 := cellB' (HB.out.drew.trans (hw'.mono HB.out.size)) hrbl HRC.out.1
                    try have g3 := cellB' (HB.out.drew.trans (hw'.mono HB.out.size)) hrbl HRC.out.2.1
                    try have g4 := cellB' (HB.out.drew.trans (hw'.mono HB.out.size)) hrbl HRC.out.2.2.1
                    try have g5 := cellB' (HB.out.drew.trans (hw'.mono HB.out.size)) hrbl HRC.out.2.2.2.1
                    try have g6 := cellB' (HB.out.drew.trans (hw'.mono HB.out.size)) hrbl HRC.out.2.2.2.2.1
                    try have g7 := cellB' (HB.out.drew.trans (hw'.mono HB.out.size)) hrbl HRC.out.2.2.2.2.2.1
                    try have g8 := cellB' (HB.out.drew.trans (hw'.mono HB.out.size)) hrbl HRC.out.2.2.2.2.2.2
                    go_simp
                    with_reducible rfl
                  simp only [Act.put, List.setIfInBounds_toArray, List.set_cons_zero, List.set_cons_succ]
                  -- 30: slot 78
                  refine wpG_take preGr (i := 30) (v := ?_) (by kernel_rfl) (some 78) (by kernel_rfl) rfl (by kernel_rfl) (by kernel_rfl) (by kernel_rfl) (fun _ _ _ h => h) (by rfl) (fun w' hw' => ?_) rfl ?_
                  rotate_left
                  · try have g0 := cellB' (HB.out.drew.trans (hw'.mono HB.out.size)) hbl HC0.out
                    try have g1 := cellB' (HB.out.drew.trans (hw'.mono HB.out.size)) hbl HC1.out
                    try have g2 := cellB' (HB.out.drew.trans (hw'.mono HB.out.size)) hrbl HRC.out.1
                    try have g3 := cellB' (HB.out.drew.trans (hw'.mono HB.out.size)) hrbl HRC.out.2.1
                    try have g4 := cellB' (HB.out.drew.trans (hw'.mono HB.out.size)) hrbl HRC.out.2.2.1
                    try have g5 := cellB' (HB.out.drew.trans (hw'.mono HB.out.size)) hrbl HRC.out.2.2.2.1
                    try have g6 := cellB' (HB.out.drew.trans (hw'.mono HB.out.size)) hrbl HRC.out.2.2.2.2.1
                    try have g7 := cellB' (HB.out.drew.trans (hw'.mono HB.out.size)) hrbl HRC.out.2.2.2.2.2.1
                    try have g8 := cellB' (HB.out.drew.trans (hw'.mono HB.out.size)) hrbl HRC.out.2.2.2.2.2.2
                    go_simp
                    with_reducible rfl
                  simp only [Act.put, List.setIfInBounds_toArray, List.set_cons_zero, List.set_cons_succ]
                  -- 31: slot 79
                  refine wpG_take preGr (i := 31) (v := ?_) (by kernel_rfl) (some 79) (by kernel_rfl) rfl (by kernel_rfl) (by kernel_rfl) (by kernel_rfl) (fun _ _ _ h => h) (by rfl) (fun w' hw' => ?_) rfl ?_
                  rotate_left
                  · try have g0 := cellB' (HB.out.drew.trans (hw'.mono HB.out.size)) hbl HC0.out
                    try have g1 := cellB' (HB.out.drew.trans (hw'.mono HB.out.size)) hbl HC1.out
                    try have g2 := cellB' (HB.out.drew.trans (hw'.mono HB.out.size)) hrbl HRC.out.1
                    try have g3 := cellB' (HB.out.drew.trans (hw'.mono HB.out.size)) hrbl HRC.out.2.1
                    try have g4 := cellB' (HB.out.drew.trans (hw'.mono HB.out.size)) hrbl HRC.out.2.2.1
                    try have g5 := cellB' (HB.out.drew.trans (hw'.mono HB.out.size)) hrbl HRC.out.2.2.2.1
                    try have g6 := cellB' (HB.out.drew.trans (hw'.mono HB.out.size)) hrbl HRC.out.2.2.2.2.1
                    try have g7 := cellB' (HB.out.drew.trans (hw'.mono HB.out.size)) hrbl HRC.out.2.2.2.2.2.1
                    try have g8 := cellB' (HB.out.drew.trans (hw'.mono HB.out.size)) hrbl HRC.out.2.2.2.2.2.2
                    go_simp
                    with_reducible rfl
                  simp only [Act.put, List.setIfInBounds_toArray, List.set_cons_zero, List.set_cons_succ]
                  -- 32: slot 80
                  refine wpG_take preGr (i := 32) (v := ?_) (by kernel_rfl) (some 80) (by kernel_rfl) rfl (by kernel_rfl) (by kernel_rfl) (by kernel_rfl) (fun _ _ _ h => h) (by rfl) (fun w' hw' => ?_) rfl ?_
                  rotate_left
                  · try have g0 := cellB' (HB.out.drew.trans (hw'.mono HB.out.size)) hbl HC0.out
                    try have g1 := cellB' (HB.out.drew.trans (hw'.mono HB.out.size)) hbl HC1.out
                    try have g2 := cellB' (HB.out.drew.trans (hw'.mono HB.out.size)) hrbl HRC.out.1
                    try have g3 := cellB' (HB.out.drew.trans (hw'.mono HB.out.size)) hrbl HRC.out.2.1
                    try have g4 := cellB' (HB.out.drew.trans (hw'.mono HB.out.size)) hrbl HRC.out.2.2.1
                    try have g5 := cellB' (HB.out.drew.trans (hw'.mono HB.out.size)) hrbl HRC.out.2.2.2.1
                    try have g6 := cellB' (HB.out.drew.trans (hw'.mono HB.out.size)) hrbl HRC.out.2.2.2.2.1
                    try have g7 := cellB' (HB.out.drew.trans (hw'.mono HB.out.size)) hrbl HRC.out.2.2.2.2.2.1
                    try have g8 := cellB' (HB.out.drew.trans (hw'.mono HB.out.size)) hrbl HRC.out.2.2.2.2.2.2
                    go_simp
                    with_reducible rfl
                  simp only [Act.put, List.setIfInBounds_toArray, List.set_cons_zero, List.set_cons_succ]
                  -- 33: slot 81
                  refine wpG_take preGr (i := 33) (v := ?_) (by kernel_rfl) (some 81) (by kernel_rfl) rfl (by kernel_rfl) (by kernel_rfl) (by kernel_rfl) (fun _ _ _ h => h) (by rfl) (fun w' hw' => ?_) rfl ?_
                  rotate_left
                  · try have g0 := cellB' (HB.out.drew.trans (hw'.mono HB.out.size)) hbl HC0.out
                    try have g1 := cellB' (HB.out.drew.trans (hw'.mono HB.out.size)) hbl HC1.out
                    try have g2 := cellB' (HB.out.drew.trans (hw'.mono HB.out.size)) hrbl HRC.out.1
                    try have g3 := cellB' (HB.out.drew.trans (hw'.mono HB.out.size)) hrbl HRC.out.2.1
                    try have g4 := cellB' (HB.out.drew.trans (hw'.mono HB.out.size)) hrbl HRC.out.2.2.1
                    try have g5 := cellB' (HB.out.drew.trans (hw'.mono HB.out.size)) hrbl HRC.out.2.2.2.1
                    try have g6 := cellB' (HB.out.drew.trans (hw'.mono HB.out.size)) hrbl HRC.out.2.2.2.2.1
                    try have g7 := cellB' (HB.out.drew.trans (hw'.mono HB.out.size)) hrbl HRC.out.2.2.2.2.2.1
                    try have g8 := cellB' (HB.out.drew.trans (hw'.mono HB.out.size)) hrbl HRC.out.2.2.2.2.2.2
                    go_simp
                    with_reducible rfl
                  simp only [Act.put, List.setIfInBounds_toArray, List.set_cons_zero, List.set_cons_succ]
                  -- 34: slot 82
                  refine wpG_take preGr (i := 34) (v := ?_) (by kernel_rfl) (some 82) (by kernel_rfl) rfl (by kernel_rfl) (by kernel_rfl) (by kernel_rfl) (fun _ _ _ h => h) (by rfl) (fun w' hw' => ?_) rfl ?_
                  rotate_left
                  · try have g0 := cellB' (HB.out.drew.trans (hw'.mono HB.out.size)) hbl HC0.out
                    try have g1 := cellB' (HB.out.drew.trans (hw'.mono HB.out.size)) hbl HC1.out
                    try have g2 := cellB' (HB.out.drew.trans (hw'.mono HB.out.size)) hrbl HRC.out.1
                    try have g3 := cellB' (HB.out.drew.trans (hw'.mono HB.out.size)) hrbl HRC.out.2.1
                    try have g4 := cellB' (HB.out.drew.trans (hw'.mono HB.out.size)) hrbl HRC.out.2.2.1
                    try have g5 := cellB' (HB.out.drew.trans (hw'.mono HB.out.size)) hrbl HRC.out.2.2.2.1
                    try have g6 := cellB' (HB.out.drew.trans (hw'.mono HB.out.size)) hrbl HRC.out.2.2.2.2.1
                    try have g7 := cellB' (HB.out.drew.trans (hw'.mono HB.out.size)) hrbl HRC.out.2.2.2.2.2.1
                    try have g8 := cellB' (HB.out.drew.trans (hw'.mono HB.out.size)) hrbl HRC.out.2.2.2.2.2.2
                    go_simp
                    with_reducible rfl
                  simp only [Act.put, List.setIfInBounds_toArray, List.set_cons_zero, List.set_cons_succ]
                  -- 35: slot 83
                  refine wpG_take preGr (i := 35) (v := ?_) (by kernel_rfl) (some 83) (by kernel_rfl) rfl (by kernel_rfl) (by kernel_rfl) (by kernel_rfl) (fun _ _ _ h => h) (by rfl) (fun w' hw' => ?_) rfl ?_
                  rotate_left
                  · try have g0 := cellB' (HB.out.drew.trans (hw'.mono HB.out.size)) hbl HC0.out
                    try have g1 := cellB' (HB.out.drew.trans (hw'.mono HB.out.size)) hbl HC1.out
                    try have g2 := cellB' (HB.out.drew.trans (hw'.mono HB.out.size)) hrbl HRC.out.1
                    try have g3 := cellB' (HB.out.drew.trans (hw'.mono HB.out.size)) hrbl HRC.out.2.1
                    try have g4 := cellB' (HB.out.drew.trans (hw'.mono HB.out.size)) hrbl HRC.out.2.2.1
                    try have g5 := cellB' (HB.out.drew.trans (hw'.mono HB.out.size)) hrbl HRC.out.2.2.2.1
                    try have g6 := cellB' (HB.out.drew.trans (hw'.mono HB.out.size)) hrbl HRC.out.2.2.2.2.1
                    try have g7 := cellB' (HB.out.drew.trans (hw'.mono HB.out.size)) hrbl HRC.out.2.2.2.2.2.1
                    try have g8 := cellB' (HB.out.drew.trans (hw'.mono HB.out.size)) hrbl HRC.out.2.2.2.2.2.2
                    go_simp
                    with_reducible rfl
                  simp only [Act.put, List.setIfInBounds_toArray, List.set_cons_zero, List.set_cons_succ]
                  refine wpG_one (i := 36) rfl (by kernel_rfl) (by rfl) ?_
                  go_simp
                  refine (NU.out _ HB.out.drew).mono ?_
                  rintro e w5 ⟨rfl, hb5⟩
                  refine ⟨hb5, ?_⟩
                  have HQ5 : Hid (Gr wr w5) := (Gr.drew wr).trans hb5
                  clear hb5
                  try simp only [Act.put, List.setIfInBounds_toArray, List.set_cons_zero, List.set_cons_succ]
                  refine wpG_one (i := 37) rfl (by kernel_rfl) (by rfl) ?_
                  go_simp
                  refine (TKS.out _).mono ?_
                  rintro e w6 ⟨rfl, hb6⟩
                  refine ⟨hb6, ?_⟩
                  have HQ6 : Hid (Gr wr w6) := HQ5.out.trans hb6
                  clear hb6
                  try simp only [Act.put, List.setIfInBounds_toArray, List.set_cons_zero, List.set_cons_succ]
                  -- 38: slot 86
                  refine wpG_take preGr (i := 38) (v := ?_) (by kernel_rfl) (some 86) (by kernel_rfl) rfl (by kernel_rfl) (by kernel_rfl) (by kernel_rfl) (fun _ _ _ h => h) (by rfl) (fun w' hw' => ?_) rfl ?_
                  rotate_left
                  · go_simp
                    with_reducible rfl
                  simp only [Act.put, List.setIfInBounds_toArray, List.set_cons_zero, List.set_cons_succ]
                  -- 39: slot 87
                  refine wpG_take preGr (i := 39) (v := ?_) (by kernel_rfl) (some 87) (by kernel_rfl) rfl (by kernel_rfl) (by kernel_rfl) (by kernel_rfl) (fun _ _ _ h => h) (by rfl) (fun w' hw' => ?_) rfl ?_
                  rotate_left
                  · go_simp
                    with_reducible rfl
                  simp only [Act.put, List.setIfInBounds_toArray, List.set_cons_zero, List.set_cons_succ]
                  -- 40: slot 12
                  refine wpG_take preGr (i := 40) (v := ?_) (by kernel_rfl) (some 12) (by kernel_rfl) rfl (by kernel_rfl) (by kernel_rfl) (by kernel_rfl) (fun _ _ _ h => h) (by rfl) (fun w' hw' => ?_) rfl ?_
                  rotate_left
                  · try have g0 := cellB' (HB.out.drew.trans (hw'.mono HB.out.size)) hbl HC0.out
                    try have g1 := cellB' (HB.out.drew.trans (hw'.mono HB.out.size)) hbl HC1.out
                    try have g2 := cellB' (HB.out.drew.trans (hw'.mono HB.out.size)) hrbl HRC.out.1
                    try have g3 := cellB' (HB.out.drew.trans (hw'.mono HB.out.size)) hrbl HRC.out.2.1
                    try have g4 := cellB' (HB.out.drew.trans (hw'.mono HB.out.size)) hrbl HRC.out.2.2.1
                    try have g5 := cellB' (HB.out.drew.trans (hw'.mono HB.out.size)) hrbl HRC.out.2.2.2.1
                    try have g6 := cellB' (HB.out.drew.trans (hw'.mono HB.out.size)) hrbl HRC.out.2.2.2.2.1
                    try have g7 := cellB' (HB.out.drew.trans (hw'.mono HB.out.size)) hrbl HRC.out.2.2.2.2.2.1
                    try have g8 := cellB' (HB.out.drew.trans (hw'.mono HB.out.size)) hrbl HRC.out.2.2.2.2.2.2
                    go_simp
                    with_reducible rfl
                  simp only [Act.put, List.setIfInBounds_toArray, List.set_cons_zero, List.set_cons_succ]
                  refine wpG_done (by kernel_rfl) ?_ _
                  have HB6 := Lib.hid (HB.out.trans (Below.mono HQ6.out HB.out.size))
                  go_wp2
                  go_roundw
                  case rel =>
                    have HX := HFS.out
                    first | exact ⟨k + 1, tk, by omega, by go_num, rfl, HX, HB6.out⟩ | ((repeat apply Exists.intro); exact ⟨⟨k + 1, tk, by omega, by go_num, rfl, HX, HB6.out⟩, rfl⟩)
                  case measure => simp [intOf]; omega
                · have hse : (r.size == (L : Int)) = false := by simpa using hs
                  have HFS : Hid (false = fitTo rs (T, l) (k + 1)) := by
                    show _ = _
                    rw [HST.out]
                    have e : fits r (T, l) = false := decide_eq_false (fun h => hs (by rw [h.2]; exact congrArg Int.ofNat HLL.out))
                    rw [e]; simp
                  clear ht hs
                  go_upto_region 14 with fail
                  refine wp_region_G 41 Gr (by kernel_rfl) ?_
                  -- 0: slot 48
                  refine wpG_take preGr (i := 0) (v := ?_) (by kernel_rfl) (some 48) (by kernel_rfl) rfl (by kernel_rfl) (by kernel_rfl) (by kernel_rfl) (fun _ _ _ h => h) (by rfl) (fun w' hw' => ?_) rfl ?_
                  rotate_left
                  · try have g0 := cellB' (HB.out.drew.trans (hw'.mono HB.out.size)) hbl HC0.out
                    try have g1 := cellB' (HB.out.drew.trans (hw'.mono HB.out.size)) hbl HC1.out
                    try have g2 := cellB' (HB.out.drew.trans (hw'.mono HB.out.size)) hrbl HRC.out.1
                    try have g3 := cellB' (HB.out.drew.trans (hw'.mono HB.out.size)) hrbl HRC.out.2.1
                    try have g4 := cellB' (HB.out.drew.trans (hw'.mono HB.out.size)) hrbl HRC.out.2.2.1
                    try have g5 := cellB' (HB.out.drew.trans (hw'.mono HB.out.size)) hrbl HRC.out.2.2.2.1
                    try have g6 := cellB' (HB.out.drew.trans (hw'.mono HB.out.size)) hrbl HRC.out.2.2.2.2.1
                    try have g7 := cellB' (HB.out.drew.trans (hw'.mono HB.out.size)) hrbl HRC.out.2.2.2.2.2.1
                    try have g8 := cellB' (HB.out.drew.trans (hw'.mono HB.out.size)) hrbl HRC.out.2.2.2.2.2.2
                    go_simp
                    with_reducible rfl
                  simp only [Act.put, List.setIfInBounds_toArray, List.set_cons_zero, List.set_cons_succ]
                  -- 1: slot 49
                  refine wpG_take preGr (i := 1) (v := ?_) (by kernel_rfl) (some 49) (by kernel_rfl) rfl (by kernel_rfl) (by kernel_rfl) (by kernel_rfl) (fun _ _ _ h => h) (by rfl) (fun w' hw' => ?_) rfl ?_
                  rotate_left
                  · try have g0 := cellB' (HB.out.drew.trans (hw'.mono HB.out.size)) hbl HC0.out
                    try have g1 := cellB' (HB.out.drew.trans (hw'.mono HB.out.size)) hbl HC1.out
                    try have g2 := cellB' (HB.out.drew.trans (hw'.mono HB.out.size)) hrbl HRC.out.1
                    try have g3 := cellB' (HB.out.drew.trans (hw'.mono HB.out.size)) hrbl HRC.out.2.1
                    try have g4 := cellB' (HB.out.drew.trans (hw'.mono HB.out.size)) hrbl HRC.out.2.2.1
                    try have g5 := cellB' (HB.out.drew.trans (hw'.mono HB.out.size)) hrbl HRC.out.2.2.2.1
                    try have g6 := cellB' (HB.out.drew.trans (hw'.mono HB.out.size)) hrbl HRC.out.2.2.2.2.1
                    try have g7 := cellB' (HB.out.drew.trans (hw'.mono HB.out.size)) hrbl HRC.out.2.2.2.2.2.1
                    try have g8 := cellB' (HB.out.drew.trans (hw'.mono HB.out.size)) hrbl HRC.out.2.2.2.2.2.2
                    go_simp
                    with_reducible rfl
                  simp only [Act.put, List.setIfInBounds_toArray, List.set_cons_zero, List.set_cons_succ]
                  -- 2: slot 50
                  refine wpG_take preGr (i := 2) (v := ?_) (by kernel_rfl) (some 50) (by kernel_rfl) rfl (by kernel_rfl) (by kernel_rfl) (by kernel_rfl) (fun _ _ _ h => h) (by rfl) (fun w' hw' => ?_) rfl ?_
                  rotate_left
                  · try have g0 := cellB' (HB.out.drew.trans (hw'.mono HB.out.size)) hbl HC0.out
                    try have g1 := cellB' (HB.out.drew.trans (hw'.mono HB.out.size)) hbl HC1.out
                    try have g2 := cellB' (HB.out.drew.trans (hw'.mono HB.out.size)) hrbl HRC.out.1
                    try have g3 := cellB' (HB.out.drew.trans (hw'.mono HB.out.size)) hrbl HRC.out.2.1
                    try have g4 := cellB' (HB.out.drew.trans (hw'.mono HB.out.size)) hrbl HRC.out.2.2.1
                    try have g5 := cellB' (HB.out.drew.trans (hw'.mono HB.out.size)) hrbl HRC.out.2.2.2.1
                    try have g6 := cellB' (HB.out.drew.trans (hw'.mono HB.out.size)) hrbl HRC.out.2.2.2.2.1
                    try have g7 := cellB' (HB.out.drew.trans (hw'.mono HB.out.size)) hrbl HRC.out.2.2.2.2.2.1
                    try have g8 := cellB' (HB.out.drew.trans (hw'.mono HB.out.size)) hrbl HRC.out.2.2.2.2.2.2
                    go_simp
                    with_reducible rfl
                  simp only [Act.put, List.setIfInBounds_toArray, List.set_cons_zero, List.set_cons_succ]
                  -- 3: slot 51
                  refine wpG_take preGr (i := 3) (v := ?_) (by kernel_rfl) (some 51) (by kernel_rfl) rfl (by kernel_rfl) (by kernel_rfl) (by kernel_rfl) (fun _ _ _ h => h) (by rfl) (fun w' hw' => ?_) rfl ?_
                  rotate_left
                  · try have g0 := cellB' (HB.out.drew.trans (hw'.mono HB.out.size)) hbl HC0.out
                    try have g1 := cellB' (HB.out.drew.trans (hw'.mono HB.out.size)) hbl HC1.out
                    try have g2 := cellB' (HB.out.drew.trans (hw'.mono HB.out.size)) hrbl HRC.out.1
                    try have g3 := cellB' (HB.out.drew.trans (hw'.mono HB.out.size)) hrbl HRC.out.2.1
                    try have g4 := cellB' (HB.out.drew.trans (hw'.mono HB.out.size)) hrbl HRC.out.2.2.1
                    try have g5 := cellB' (HB.out.drew.trans (hw'.mono HB.out.size)) hrbl HRC.out.2.2.2.1
                    try have g6 := cellB' (HB.out.drew.trans (hw'.mono HB.out.size)) hrbl HRC.out.2.2.2.2.1
                    try have g7 := cellB' (HB.out.drew.trans (hw'.mono HB.out.size)) hrbl HRC.out.2.2.2.2.2.1
                    try have g8 := cellB' (HB.out.drew.trans (hw'.mono HB.out.size)) hrbl HRC.out.2.2.2.2.2.2
                    go_simp
                    with_reducible rfl
                  simp only [Act.put, List.setIfInBounds_toArray, List.set_cons_zero, List.set_cons_succ]
                  -- 4: slot 52
                  refine wpG_take preGr (i := 4) (v := ?_) (by kernel_rfl) (some 52) (by kernel_rfl) rfl (by kernel_rfl) (by kernel_rfl) (by kernel_rfl) (fun _ _ _ h => h) (by rfl) (fun w' hw' => ?_) rfl ?_
                  rotate_left
                  · try have g0 := cellB' (HB.out.drew.trans (hw'.mono HB.out.size)) hbl HC0.out
                    try have g1 := cellB' (HB.out.drew.trans (hw'.mono HB.out.size)) hbl HC1.out
                    try have g2 := cellB' (HB.out.drew.trans (hw'.mono HB.out.size)) hrbl HRC.out.1
                    try have g3 := cellB' (HB.out.drew.trans (hw'.mono HB.out.size)) hrbl HRC.out.2.1
                    try have g4 := cellB' (HB.out.drew.trans (hw'.mono HB.out.size)) hrbl HRC.out.2.2.1
                    try have g5 := cellB' (HB.out.drew.trans (hw'.mono HB.out.size)) hrbl HRC.out.2.2.2.1
                    try have g6 := cellB' (HB.out.drew.trans (hw'.mono HB.out.size)) hrbl HRC.out.2.2.2.2.1
                    try have g7 := cellB' (HB.out.drew.trans (hw'.mono HB.out.size)) hrbl HRC.out.2.2.2.2.2.1
                    try have g8 := cellB' (HB.out.drew.trans (hw'.mono HB.out.size)) hrbl HRC.out.2.2.2.2.2.2
                    go_simp
                    with_reducible rfl
                  simp only [Act.put, List.setIfInBounds_toArray, List.set_cons_zero, List.set_cons_succ]
                  -- 5: slot 53
                  refine wpG_take preGr (i := 5) (v := ?_) (by kernel_rfl) (some 53) (by kernel_rfl) rfl (by kernel_rfl) (by kernel_rfl) (by kernel_rfl) (fun _ _ _ h => h) (by rfl) (fun w' hw' => ?_) rfl ?_
                  rotate_left
                  · try have g0 := cellB' (HB.out.drew.trans (hw'.mono HB.out.size)) hbl HC0.out
                    try have g1 := cellB' (HB.out.drew.trans (hw'.mono HB.out.size)) hbl HC1.out
                    try have g2 := cellB' (HB.out.drew.trans (hw'.mono HB.out.size)) hrbl HRC.out.1
                    try have g3 := cellB' (HB.out.drew.trans (hw'.mono HB.out.size)) hrbl HRC.out.2.1
                    try have g4 := cellB' (HB.out.drew.trans (hw'.mono HB.out.size)) hrbl HRC.out.2.2.1
                    try have g5 := cellB' (HB.out.drew.trans (hw'.mono HB.out.size)) hrbl HRC.out.2.2.2.1
                    try have g6 := cellB' (HB.out.drew.trans (hw'.mono HB.out.size)) hrbl HRC.out.2.2.2.2.1
                    try have g7 := cellB' (HB.out.drew.trans (hw'.mono HB.out.size)) hrbl HRC.out.2.2.2.2.2.1
                    try have g8 := cellB' (HB.out.drew.trans (hw'.mono HB.out.size)) hrbl HRC.out.2.2.2.2.2.2
                    go_simp
                    with_reducible rfl
                  simp only [Act.put, List.setIfInBounds_toArray, List.set_cons_zero, List.set_cons_succ]
                  -- 6: slot 54
                  refine wpG_take preGr (i := 6) (v := ?_) (by kernel_rfl) (some 54) (by kernel_rfl) rfl (by kernel_rfl) (by kernel_rfl) (by kernel_rfl) (fun _ _ _ h => h) (by rfl) (fun w' hw' => ?_) rfl ?_
                  rotate_left
                  · try have g0 := cellB' (HB.out.drew.trans (hw'.mono HB.out.size)) hbl HC0.out
                    try have g1 := cellB' (HB.out.drew.trans (hw'.mono HB.out.size)) hbl HC1.out
                    try have g2 := cellB' (HB.out.drew.trans (hw'.mono HB.out.size)) hrbl HRC.out.1
                    try have g3 := cellB' (HB.out.drew.trans (hw'.mono HB.out.size)) hrbl HRC.out.2.1
                    try have g4 := cellB' (HB.out.drew.trans (hw'.mono HB.out.size)) hrbl HRC.out.2.2.1
                    try have g5 := cellB' (HB.out.drew.trans (hw'.mono HB.out.size)) hrbl HRC.out.2.2.2.1
                    try have g6 := cellB' (HB.out.drew.trans (hw'.mono HB.out.size)) hrbl HRC.out.2.2.2.2.1
                    try have g7 := cellB' (HB.out.drew.trans (hw'.mono HB.out.size)) hrbl HRC.out.2.2.2.2.2.1
                    try have g8 := cellB' (HB.out.drew.trans (hw'.mono HB.out.size)) hrbl HRC.out.2.2.2.2.2.2
                    go_simp
                    with_reducible rfl
                  simp only [Act.put, List.setIfInBounds_toArray, List.set_cons_zero, List.set_cons_succ]
                  -- 7: slot 55
                  refine wpG_take preGr (i := 7) (v := ?_) (by kernel_rfl) (some 55) (by kernel_rfl) rfl (by kernel_rfl) (by kernel_rfl) (by kernel_rfl) (fun _ _ _ h => h) (by rfl) (fun w' hw' => ?_) rfl ?_
                  rotate_left
                  · try have g0 := cellB' (HB.out.drew.trans (hw'.mono HB.out.size)) hbl HC0.out
                    try have g1 := cellB' (HB.out.drew.trans (hw'.mono HB.out.size)) hbl HC1.out
                    try have g2 := cellB' (HB.out.drew.trans (hw'.mono HB.out.size)) hrbl HRC.out.1
                    try have g3 := cellB' (HB.out.drew.trans (hw'.mono HB.out.size)) hrbl HRC.out.2.1
                    try have g4 := cellB' (HB.out.drew.trans (hw'.mono HB.out.size)) hrbl HRC.out.2.2.1
                    try have g5 := cellB' (HB.out.drew.trans (hw'.mono HB.out.size)) hrbl HRC.out.2.2.2.1
                    try have g6 := cellB' (HB.out.drew.trans (hw'.mono HB.out.size)) hrbl HRC.out.2.2.2.2.1
                    try have g7 := cellB' (HB.out.drew.trans (hw'.mono HB.out.size)) hrbl HRC.out.2.2.2.2.2.1
                    try have g8 := cellB' (HB.out.drew.trans (hw'.mono HB.out.size)) hrbl HRC.out.2.2.2.2.2.2
                    go_simp
                    with_reducible rfl
                  simp only [Act.put, List.setIfInBounds_toArray, List.set_cons_zero, List.set_cons_succ]
                  -- 8: slot 56
                  refine wpG_take preGr (i := 8) (v := ?_) (by kernel_rfl) (some 56) (by kernel_rfl) rfl (by kernel_rfl) (by kernel_rfl) (by kernel_rfl) (fun _ _ _ h => h) (by rfl) (fun w' hw' => ?_) rfl ?_
                  rotate_left
                  · try have g0 := cellB' (HB.out.drew.trans (hw'.mono HB.out.size)) hbl HC0.out
                    try have g1 := cellB' (HB.out.drew.trans (hw'.mono HB.out.size)) hbl HC1.out
                    try have g2 := cellB' (HB.out.drew.trans (hw'.mono HB.out.size)) hrbl HRC.out.1
                    try have g3 := cellB' (HB.out.drew.trans (hw'.mono HB.out.size)) hrbl HRC.out.2.1
                    try have g4 := cellB' (HB.out.drew.trans (hw'.mono HB.out.size)) hrbl HRC.out.2.2.1
                    try have g5 := cellB' (HB.out.drew.trans (hw'.mono HB.out.size)) hrbl HRC.out.2.2.2.1
                    try have g6 := cellB' (HB.out.drew.trans (hw'.mono HB.out.size)) hrbl HRC.out.2.2.2.2.1
                    try have g7 := cellB' (HB.out.drew.trans (hw'.mono HB.out.size)) hrbl HRC.out.2.2.2.2.2.1
                    try have g8 := cellB' (HB.out.drew.trans (hw'.mono HB.out.size)) hrbl HRC.out.2.2.2.2.2.2
                    go_simp
                    with_reducible rfl
                  simp only [Act.put, List.setIfInBounds_toArray, List.set_cons_zero, List.set_cons_succ]
                  -- 9: slot 57
                  refine wpG_take preGr (i := 9) (v := ?_) (by kernel_rfl) (some 57) (by kernel_rfl) rfl (by kernel_rfl) (by kernel_rfl) (by kernel_rfl) (fun _ _ _ h => h) (by rfl) (fun w' hw' => ?_) rfl ?_
                  rotate_left
                  · try have g0 := cellB' (HB.out.drew.trans (hw'.mono HB.out.size)) hbl HC0.out
                    try have g1 := cellB' (HB.out.drew.trans (hw'.mono HB.out.size)) hbl HC1.out
                    try have g2 := cellB' (HB.out.drew.trans (hw'.mono HB.out.size)) hrbl HRC.out.1
                    try have g3 := cellB' (HB.out.drew.trans (hw'.mono HB.out.size)) hrbl HRC.out.2.1
                    try have g4 := cellB' (HB.out.drew.trans (hw'.mono HB.out.size)) hrbl HRC.out.2.2.1
                    try have g5 := cellB' (HB.out.drew.trans (hw'.mono HB.out.size)) hrbl HRC.out.2.2.2.1
                    try have g6 := cellB' (HB.out.drew.trans (hw'.mono HB.out.size)) hrbl HRC.out.2.2.2.2.1
                    try have g7 := cellB' (HB.out.drew.trans (hw'.mono HB.out.size)) hrbl HRC.out.2.2.2.2.2.1
                    try have g8 := cellB' (HB.out.drew.trans (hw'.mono HB.out.size)) hrbl HRC.out.2.2.2.2.2.2
                    go_simp
                    with_reducible rfl
                  simp only [Act.put, List.setIfInBounds_toArray, List.set_cons_zero, List.set_cons_succ]
                  -- 10: slot 58
                  refine wpG_take preGr (i := 10) (v := ?_) (by kernel_rfl) (some 58) (by kernel_rfl) rfl (by kernel_rfl) (by kernel_rfl) (by kernel_rfl) (fun _ _ _ h => h) (by rfl) (fun w' hw' => ?_) rfl ?_
                  rotate_left
                  · try have g0 := cellB' (HB.out.drew.trans (hw'.mono HB.out.size)) hbl HC0.out
                    try have g1 := cellB' (HB.out.drew.trans (hw'.mono HB.out.size)) hbl HC1.out
                    try have g2 := cellB' (HB.out.drew.trans (hw'.mono HB.out.size)) hrbl HRC.out.1
                    try have g3 := cellB' (HB.out.drew.trans (hw'.mono HB.out.size)) hrbl HRC.out.2.1
                    try have g4 := cellB' (HB.out.drew.trans (hw'.mono HB.out.size)) hrbl HRC.out.2.2.1
                    try have g5 := cellB' (HB.out.drew.trans (hw'.mono HB.out.size)) hrbl HRC.out.2.2.2.1
                    try have g6 := cellB' (HB.out.drew.trans (hw'.mono HB.out.size)) hrbl HRC.out.2.2.2.2.1
                    try have g7 := cellB' (HB.out.drew.trans (hw'.mono HB.out.size)) hrbl HRC.out.2.2.2.2.2.1
                    try have g8 := cellB' (HB.out.drew.trans (hw'.mono HB.out.size)) hrbl HRC.out.2.2.2.2.2.2
                    go_simp
                    with_reducible rfl
                  simp only [Act.put, List.setIfInBounds_toArray, List.set_cons_zero, List.set_cons_succ]
                  -- 11: slot 59
                  refine wpG_take preGr (i := 11) (v := ?_) (by kernel_rfl) (some 59) (by kernel_rfl) rfl (by kernel_rfl) (by kernel_rfl) (by kernel_rfl) (fun _ _ _ h => h) (by rfl) (fun w' hw' => ?_) rfl ?_
                  rotate_left
                  · try have g0 := cellB' (HB.out.drew.trans (hw'.mono HB.out.size)) hbl HC0.out
                    try have g1 := cellB' (HB.out.drew.trans (hw'.mono HB.out.size)) hbl HC1.out
                    try have g2 := cellB' (HB.out.drew.trans (hw'.mono HB.out.size)) hrbl HRC.out.1
                    try have g3 := cellB' (HB.out.drew.trans (hw'.mono HB.out.size)) hrbl HRC.out.2.1
                    try have g4 := cellB' (HB.out.drew.trans (hw'.mono HB.out.size)) hrbl HRC.out.2.2.1
                    try have g5 := cellB' (HB.out.drew.trans (hw'.mono HB.out.size)) hrbl HRC.out.2.2.2.1
                    try have g6 := cellB' (HB.out.drew.trans (hw'.mono HB.out.size)) hrbl HRC.out.2.2.2.2.1
                    try have g7 := cellB' (HB.out.drew.trans (hw'.mono HB.out.size)) hrbl HRC.out.2.2.2.2.2.1
                    try have g8 := cellB' (HB.out.drew.trans (hw'.mono HB.out.size)) hrbl HRC.out.2.2.2.2.2.2
                    go_simp
                    with_reducible rfl
                  simp only [Act.put, List.setIfInBounds_toArray, List.set_cons_zero, List.set_cons_succ]
                  -- 12: slot 60
                  refine wpG_take preGr (i := 12) (v := ?_) (by kernel_rfl) (some 60) (by kernel_rfl) rfl (by kernel_rfl) (by kernel_rfl) (by kernel_rfl) (fun _ _ _ h => h) (by rfl) (fun w' hw' => ?_) rfl ?_
                  rotate_left
                  · try have g0 := cellB' (HB.out.drew.trans (hw'.mono HB.out.size)) hbl HC0.out
                    try have g1 := cellB' (HB.out.drew.trans (hw'.mono HB.out.size)) hbl HC1.out
                    try have g2 := cellB' (HB.out.drew.trans (hw'.mono HB.out.size)) hrbl HRC.out.1
                    try have g3 := cellB' (HB.out.drew.trans (hw'.mono HB.out.size)) hrbl HRC.out.2.1
                    try have g4 := cellB' (HB.out.drew.trans (hw'.mono HB.out.size)) hrbl HRC.out.2.2.1
                    try have g5 := cellB' (HB.out.drew.trans (hw'.mono HB.out.size)) hrbl HRC.out.2.2.2.1
                    try have g6 := cellB' (HB.out.drew.trans (hw'.mono HB.out.size)) hrbl HRC.out.2.2.2.2.1
                    try have g7 := cellB' (HB.out.drew.trans (hw'.mono HB.out.size)) hrbl HRC.out.2.2.2.2.2.1
                    try have g8 := cellB' (HB.out.drew.trans (hw'.mono HB.out.size)) hrbl HRC.out.2.2.2.2.2.2
                    go_simp
                    with_reducible rfl
                  simp only [Act.put, List.setIfInBounds_toArray, List.set_cons_zero, List.set_cons_succ]
                  -- 13: slot 61
                  refine wpG_take preGr (i := 13) (v := ?_) (by kernel_rfl) (some 61) (by kernel_rfl) rfl (by kernel_rfl) (by kernel_rfl) (by kernel_rfl) (fun _ _ _ h => h) (by rfl) (fun w' hw' => ?_) rfl ?_
                  rotate_left
                  · try have g0 := cellB' (HB.out.drew.trans (hw'.mono HB.out.size)) hbl HC0.out
                    try have g1 := cellB' (HB.out.drew.trans (hw'.mono HB.out.size)) hbl HC1.out
                    try have g2 := cellB' (HB.out.drew.trans (hw'.mono HB.out.size)) hrbl HRC.out.1
                    try have g3 := cellB' (HB.out.drew.trans (hw'.mono HB.out.size)) hrbl HRC.out.2.1
                    try have g4 := cellB' (HB.out.drew.trans (hw'.mono HB.out.size)) hrbl HRC.out.2.2.1
                    try have g5 := cellB' (HB.out.drew.trans (hw'.mono HB.out.size)) hrbl HRC.out.2.2.2.1
                    try have g6 := cellB' (HB.out.drew.trans (hw'.mono HB.out.size)) hrbl HRC.out.2.2.2.2.1
                    try have g7 := cellB' (HB.out.drew.trans (hw'.mono HB.out.size)) hrbl HRC.out.2.2.2.2.2.1
                    try have g8 := cellB' (HB.out.drew.trans (hw'.mono HB.out.size)) hrbl HRC.out.2.2.2.2.2.2
                    go_simp
                    with_reducible rfl
                  simp only [Act.put, List.setIfInBounds_toArray, List.set_cons_zero, List.set_cons_succ]
                  -- 14: slot 62
                  refine wpG_take preGr (i := 14) (v := ?_) (by kernel_rfl) (some 62) (by kernel_rfl) rfl (by kernel_rfl) (by kernel_rfl) (by kernel_rfl) (fun _ _ _ h => h) (by rfl) (fun w' hw' => ?_) rfl ?_
                  rotate_left
                  · try have g0 := cellB' (HB.out.drew.trans (hw'.mono HB.out.size)) hbl HC0.out
                    try have g1 := cellB' (HB.out.drew.trans (hw'.mono HB.out.size)) hbl HC1.out
                    try have g2 := cellB' (HB.out.drew.trans (hw'.mono HB.out.size)) hrbl HRC.out.1
                    try have g3 := cellB' (HB.out.drew.trans (hw'.mono HB.out.size)) hrbl HRC.out.2.1
                    try have g4 := cellB' (HB.out.drew.trans (hw'.mono HB.out.size)) hrbl HRC.out.2.2.1
                    try have g5 := cellB' (HB.out.drew.trans (hw'.mono HB.out.size)) hrbl HRC.out.2.2.2.1
                    try have g6 := cellB' (HB.out.drew.trans (hw'.mono HB.out.size)) hrbl HRC.out.2.2.2.2.1
                    try have g7 := cellB' (HB.out.drew.trans (hw'.mono HB.out.size)) hrbl HRC.out.2.2.2.2.2.1
                    try have g8 := cellB' (HB.out.drew.trans (hw'.mono HB.out.size)) hrbl HRC.out.2.2.2.2.2.2
                    go_simp
                    with_reducible rfl
                  simp only [Act.put, List.setIfInBounds_toArray, List.set_cons_zero, List.set_cons_succ]
                  -- 15: slot 63
                  refine wpG_take preGr (i := 15) (v := ?_) (by kernel_rfl) (some 63) (by kernel_rfl) rfl (by kernel_rfl) (by kernel_rfl) (by kernel_rfl) (fun _ _ _ h => h) (by rfl) (fun w' hw' => ?_) rfl ?_
                  rotate_left
                  · try have g0 := cellB' (HB.out.drew.trans (hw'.mono HB.out.size)) hbl HC0.out
                    try have g1 := cellB' (HB.out.drew.trans (hw'.mono HB.out.size)) hbl HC1.out
                    try have g2 := cellB' (HB.out.drew.trans (hw'.mono HB.out.size)) hrbl HRC.out.1
                    try have g3 := cellB' (HB.out.drew.trans (hw'.mono HB.out.size)) hrbl HRC.out.2.1
                    try have g4 := cellB' (HB.out.drew.trans (hw'.mono HB.out.size)) hrbl HRC.out.2.2.1
                    try have g5 := cellB' (HB.out.drew.trans (hw'.mono HB.out.size)) hrbl HRC.out.2.2.2.1
                    try have g6 := cellB' (HB.out.drew.trans (hw'.mono HB.out.size)) hrbl HRC.out.2.2.2.2.1
                    try have g7 := cellB' (HB.out.drew.trans (hw'.mono HB.out.size)) hrbl HRC.out.2.2.2.2.2.1
                    try have g8 := cellB' (HB.out.drew.trans (hw'.mono HB.out.size)) hrbl HRC.out.2.2.2.2.2.2
                    go_simp
                    with_reducible rfl
                  simp only [Act.put, List.setIfInBounds_toArray, List.set_cons_zero, List.set_cons_succ]
                  -- 16: slot 64
                  refine wpG_take preGr (i := 16) (v := ?_) (by kernel_rfl) (some 64) (by kernel_rfl) rfl (by kernel_rfl) (by kernel_rfl) (by kernel_rfl) (fun _ _ _ h => h) (by rfl) (fun w' hw' => ?_) rfl ?_
                  rotate_left
                  · try have g0 := cellB' (HB.out.drew.trans (hw'.mono HB.out.size)) hbl HC0.out
                    try have g1 := cellB' (HB.out.drew.trans (hw'.mono HB.out.size)) hbl HC1.out
                    try have g2 := cellB' (HB.out.drew.trans (hw'.mono HB.out.size)) hrbl HRC.out.1
                    try have g3 := cellB' (HB.out.drew.trans (hw'.mono HB.out.size)) hrbl HRC.out.2.1
                    try have g4 := cellB' (HB.out.drew.trans (hw'.mono HB.out.size)) hrbl HRC.out.2.2.1
                    try have g5 := cellB' (HB.out.drew.trans (hw'.mono HB.out.size)) hrbl HRC.out.2.2.2.1
                    try have g6 := cellB' (HB.out.drew.trans (hw'.mono HB.out.size)) hrbl HRC.out.2.2.2.2.1
                    try have g7 := cellB' (HB.out.drew.trans (hw'.mono HB.out.size)) hrbl HRC.out.2.2.2.2.2.1
                    try have g8 := cellB' (HB.out.drew.trans (hw'.mono HB.out.size)) hrbl HRC.out.2.2.2.2.2.2
                    go_simp
                    with_reducible rfl
                  simp only [Act.put, List.setIfInBounds_toArray, List.set_cons_zero, List.set_cons_succ]
                  -- 17: slot 65
                  refine wpG_take preGr (i := 17) (v := ?_) (by kernel_rfl) (some 65) (by kernel_rfl) rfl (by kernel_rfl) (by kernel_rfl) (by kernel_rfl) (fun _ _ _ h => h) (by rfl) (fun w' hw' => ?_) rfl ?_
                  rotate_left
                  · try have g0 := cellB' (HB.out.drew.trans (hw'.mono HB.out.size)) hbl HC0.out
                    try have g1 := cellB' (HB.out.drew.trans (hw'.mono HB.out.size)) hbl HC1.out
                    try have g2 := cellB' (HB.out.drew.trans (hw'.mono HB.out.size)) hrbl HRC.out.1
                    try have g3 := cellB' (HB.out.drew.trans (hw'.mono HB.out.size)) hrbl HRC.out.2.1
                    try have g4 := cellB' (HB.out.drew.trans (hw'.mono HB.out.size)) hrbl HRC.out.2.2.1
                    try have g5 := cellB' (HB.out.drew.trans (hw'.mono HB.out.size)) hrbl HRC.out.2.2.2.1
                    try have g6 := cellB' (HB.out.drew.trans (hw'.mono HB.out.size)) hrbl HRC.out.2.2.2.2.1
                    try have g7 := cellB' (HB.out.drew.trans (hw'.mono HB.out.size)) hrbl HRC.out.2.2.2.2.2.1
                    try have g8 := cellB' (HB.out.drew.trans (hw'.mono HB.out.size)) hrbl HRC.out.2.2.2.2.2.2
                    go_simp
                    with_reducible rfl
                  simp only [Act.put, List.setIfInBounds_toArray, List.set_cons_zero, List.set_cons_succ]
                  -- 18: slot 66
                  refine wpG_take preGr (i := 18) (v := ?_) (by kernel_rfl) (some 66) (by kernel_rfl) rfl (by kernel_rfl) (by kernel_rfl) (by kernel_rfl) (fun _ _ _ h => h) (by rfl) (fun w' hw' => ?_) rfl ?_
                  rotate_left
                  · try have g0 := cellB' (HB.out.drew.trans (hw'.mono HB.out.size)) hbl HC0.out
                    try have g1 := cellB' (HB.out.drew.trans (hw'.mono HB.out.size)) hbl HC1.out
                    try have g2 := cellB' (HB.out.drew.trans (hw'.mono HB.out.size)) hrbl HRC.out.1
                    try have g3 := cellB' (HB.out.drew.trans (hw'.mono HB.out.size)) hrbl HRC.out.2.1
                    try have g4 := cellB' (HB.out.drew.trans (hw'.mono HB.out.size)) hrbl HRC.out.2.2.1
                    try have g5 := cellB' (HB.out.drew.trans (hw'.mono HB.out.size)) hrbl HRC.out.2.2.2.1
                    try have g6 := cellB' (HB.out.drew.trans (hw'.mono HB.out.size)) hrbl HRC.out.2.2.2.2.1
                    try have g7 := cellB' (HB.out.drew.trans (hw'.mono HB.out.size)) hrbl HRC.out.2.2.2.2.2.1
                    try have g8 := cellB' (HB.out.drew.trans (hw'.mono HB.out.size)) hrbl HRC.out.2.2.2.2.2.2
                    go_simp
                    with_reducible rfl
                  simp only [Act.put, List.setIfInBounds_toArray, List.set_cons_zero, List.set_cons_succ]
                  -- 19: slot 67
                  refine wpG_take preGr (i := 19) (v := ?_) (by kernel_rfl) (some 67) (by kernel_rfl) rfl (by kernel_rfl) (by kernel_rfl) (by kernel_rfl) (fun _ _ _ h => h) (by rfl) (fun w' hw' => ?_) rfl ?_
                  rotate_left
                  · try have g0 := cellB' (HB.out.drew.trans (hw'.mono HB.out.size)) hbl HC0.out
                    try have g1 := cellB' (HB.out.drew.trans (hw'.mono HB.out.size)) hbl HC1.out
                    try have g2 := cellB' (HB.out.drew.trans (hw'.mono HB.out.size)) hrbl HRC.out.1
                    try have g3 := cellB' (HB.out.drew.trans (hw'.mono HB.out.size)) hrbl HRC.out.2.1
                    try have g4 := cellB' (HB.out.drew.trans (hw'.mono HB.out.size)) hrbl HRC.out.2.2.1
                    try have g5 := cellB' (HB.out.drew.trans (hw'.mono HB.out.size)) hrbl HRC.out.2.2.2.1
                    try have g6 := cellB' (HB.out.drew.trans (hw'.mono HB.out.size)) hrbl HRC.out.2.2.2.2.1
                    try have g7 := cellB' (HB.out.drew.trans (hw'.mono HB.out.size)) hrbl HRC.out.2.2.2.2.2.1
                    try have g8 := cellB' (HB.out.drew.trans (hw'.mono HB.out.size)) hrbl HRC.out.2.2.2.2.2.2
                    go_simp
                    with_reducible rfl
                  simp only [Act.put, List.setIfInBounds_toArray, List.set_cons_zero, List.set_cons_succ]
                  -- 20: slot 68
                  refine wpG_take preGr (i := 20) (v := ?_) (by kernel_rfl) (some 68) (by kernel_rfl) rfl (by kernel_rfl) (by kernel_rfl) (by kernel_rfl) (fun _ _ _ h => h) (by rfl) (fun w' hw' => ?_) rfl ?_
                  rotate_left
                  · try have g0 := cellB' (HB.out.drew.trans (hw'.mono HB.out.size)) hbl HC0.out
                    try have g1 := cellB' (HB.out.drew.trans (hw'.mono HB.out.size)) hbl HC1.out
                    try have g2 := cellB' (HB.out.drew.trans (hw'.mono HB.out.size)) hrbl HRC.out.1
                    try have g3 := cellB' (HB.out.drew.trans (hw'.mono HB.out.size)) hrbl HRC.out.2.1
                    try have g4 := cellB' (HB.out.drew.trans (hw'.mono HB.out.size)) hrbl HRC.out.2.2.1
                    try have g5 := cellB' (HB.out.drew.trans (hw'.mono HB.out.size)) hrbl HRC.out.2.2.2.1
                    try have g6 := cellB' (HB.out.drew.trans (hw'.mono HB.out.size)) hrbl HRC.out.2.2.2.2.1
                    try have g7 := cellB' (HB.out.drew.trans (hw'.mono HB.out.size)) hrbl HRC.out.2.2.2.2.2.1
                    try have g8 := cellB' (HB.out.drew.trans (hw'.mono HB.out.size)) hrbl HRC.out.2.2.2.2.2.2
                    go_simp
                    with_reducible rfl
                  simp only [Act.put, List.setIfInBounds_toArray, List.set_cons_zero, List.set_cons_succ]
                  -- 21: slot 69
                  refine wpG_take preGr (i := 21) (v := ?_) (by kernel_rfl) (some 69) (by kernel_rfl) rfl (by kernel_rfl) (by kernel_rfl) (by kernel_rfl) (fun _ _ _ h => h) (by rfl) (fun w' hw' => ?_) rfl ?_
                  rotate_left
                  · try have g0 := cellB' (HB.out.drew.trans (hw'.mono HB.out.size)) hbl HC0.out
                    try have g1 := cellB' (HB.out.drew.trans (hw'.mono HB.out.size)) hbl HC1.out
                    try have g2 := cellB' (HB.out.drew.trans (hw'.mono HB.out.size)) hrbl HRC.out.1
                    try have g3 := cellB' (HB.out.drew.trans (hw'.mono HB.out.size)) hrbl HRC.out.2.1
                    try have g4 := cellB' (HB.out.drew.trans (hw'.mono HB.out.size)) hrbl HRC.out.2.2.1
                    try have g5 := cellB' (HB.out.drew.trans (hw'.mono HB.out.size)) hrbl HRC.out.2.2.2.1
                    try have g6 := cellB' (HB.out.drew.trans (hw'.mono HB.out.size)) hrbl HRC.out.2.2.2.2.1
                    try have g7 := cellB' (HB.out.drew.trans (hw'.mono HB.out.size)) hrbl HRC.out.2.2.2.2.2.1
                    try have g8 := cellB' (HB.out.drew.trans (hw'.mono HB.out.size)) hrbl HRC.out.2.2.2.2.2.2
                    go_simp
                    with_reducible rfl
                  simp only [Act.put, List.setIfInBounds_toArray, List.set_cons_zero, List.set_cons_succ]
                  -- 22: slot 70
                  refine wpG_take preGr (i := 22) (v := ?_) (by kernel_rfl) (some 70) (by kernel_rfl) rfl (by kernel_rfl) (by kernel_rfl) (by kernel_rfl) (fun _ _ _ h => h) (by rfl) (fun w' hw' => ?_) rfl ?_
                  rotate_left
                  · try have g0 := cellB' (HB.out.drew.trans (hw'.mono HB.out.size)) hbl HC0.out
                    try have g1 := cellB' (HB.out.drew.trans (hw'.mono HB.out.size)) hbl HC1.out
                    try have g2 := cellB' (HB.out.drew.trans (hw'.mono HB.out.size)) hrbl HRC.out.1
                    try have g3 := cellB' (HB.out.drew.trans (hw'.mono HB.out.size)) hrbl HRC.out.2.1
                    try have g4 := cellB' (HB.out.drew.trans (hw'.mono HB.out.size)) hrbl HRC.out.2.2.1
                    try have g5 := cellB' (HB.out.drew.trans (hw'.mono HB.out.size)) hrbl HRC.out.2.2.2.1
                    try have g6 := cellB' (HB.out.drew.trans (hw'.mono HB.out.size)) hrbl HRC.out.2.2.2.2.1
                    try have g7 := cellB' (HB.out.drew.trans (hw'.mono HB.out.size)) hrbl HRC.out.2.2.2.2.2.1
                    try have g8 := cellB' (HB.out.drew.trans (hw'.mono HB.out.size)) hrbl HRC.out.2.2.2.2.2.2
                    go_simp
                    with_reducible rfl
                  simp only [Act.put, List.setIfInBounds_toArray, List.set_cons_zero, List.set_cons_succ]
                  -- 23: slot 71
                  refine wpG_take preGr (i := 23) (v := ?_) (by kernel_rfl) (some 71) (by kernel_rfl) rfl (by kernel_rfl) (by kernel_rfl) (by kernel_rfl) (fun _ _ _ h => h) (by rfl) (fun w' hw' => ?_) rfl ?_
                  rotate_left
                  · try have g0 := cellB' (HB.out.drew.trans (hw'.mono HB.out.size)) hbl HC0.out
                    try have g1 := cellB' (HB.out.drew.trans (hw'.mono HB.out.size)) hbl HC1.out
                    try have g2 := cellB' (HB.out.drew.trans (hw'.mono HB.out.size)) hrbl HRC.out.1
                    try have g3 := cellB' (HB.out.drew.trans (hw'.mono HB.out.size)) hrbl HRC.out.2.1
                    try have g4 := cellB' (HB.out.drew.trans (hw'.mono HB.out.size)) hrbl HRC.out.2.2.1
                    try have g5 := cellB' (HB.out.drew.trans (hw'.mono HB.out.size)) hrbl HRC.out.2.2.2.1
                    try have g6 := cellB' (HB.out.drew.trans (hw'.mono HB.out.size)) hrbl HRC.out.2.2.2.2.1
                    try have g7 := cellB' (HB.out.drew.trans (hw'.mono HB.out.size)) hrbl HRC.out.2.2.2.2.2.1
                    try have g8 := cellB' (HB.out.drew.trans (hw'.mono HB.out.size)) hrbl HRC.out.2.2.2.2.2.2
                    go_simp
                    with_reducible rfl
                  simp only [Act.put, List.setIfInBounds_toArray, List.set_cons_zero, List.set_cons_succ]
                  -- 24: slot 72
                  refine wpG_take preGr (i := 24) (v := ?_) (by kernel_rfl) (some 72) (by kernel_rfl) rfl (by kernel_rfl) (by kernel_rfl) (by kernel_rfl) (fun _ _ _ h => h) (by rfl) (fun w' hw' => ?_) rfl ?_
                  rotate_left
                  · try have g0 := cellB' (HB.out.drew.trans (hw'.mono HB.out.size)) hbl HC0.out
                    try have g1 := cellB' (HB.out.drew.trans (hw'.mono HB.out.size)) hbl HC1.out
                    try have g2 := cellB' (HB.out.drew.trans (hw'.mono HB.out.size)) hrbl HRC.out.1
                    try have g3 := cellB' (HB.out.drew.trans (hw'.mono HB.out.size)) hrbl HRC.out.2.1
                    try have g4 := cellB' (HB.out.drew.trans (hw'.mono HB.out.size)) hrbl HRC.out.2.2.1
                    try have g5 := cellB' (HB.out.drew.trans (hw'.mono HB.out.size)) hrbl HRC.out.2.2.2.1
                    try have g6 := cellB' (HB.out.drew.trans (hw'.mono HB.out.size)) hrbl HRC.out.2.2.2.2.1
                    try have g7 := cellB' (HB.out.drew.trans (hw'.mono HB.out.size)) hrbl HRC.out.2.2.2.2.2.1
                    try have g8 := cellB' (HB.out.drew.trans (hw'.mono HB.out.size)) hrbl HRC.out.2.2.2.2.2.2
                    go_simp
                    with_reducible rfl
                  simp only [Act.put, List.setIfInBounds_toArray, List.set_cons_zero, List.set_cons_succ]
                  -- 25: slot 73
                  refine wpG_take preGr (i := 25) (v := ?_) (by kernel_rfl) (some 73) (by kernel_rfl) rfl (by kernel_rfl) (by kernel_rfl) (by kernel_rfl) (fun _ _ _ h => h) (by rfl) (fun w' hw' => ?_) rfl ?_
                  rotate_left
                  · try have g0 := cellB' (HB.out.drew.trans (hw'.mono HB.out.size)) hbl HC0.out
                    try have g1 := cellB' (HB.out.drew.trans (hw'.mono HB.out.size)) hbl HC1.out
                    try have g2 := cellB' (HB.out.drew.trans (hw'.mono HB.out.size)) hrbl HRC.out.1
                    try have g3 := cellB' (HB.out.drew.trans (hw'.mono HB.out.size)) hrbl HRC.out.2.1
                    try have g4 := cellB' (HB.out.drew.trans (hw'.mono HB.out.size)) hrbl HRC.out.2.2.1
                    try have g5 := cellB' (HB.out.drew.trans (hw'.mono HB.out.size)) hrbl HRC.out.2.2.2.1
                    try have g6 := cellB' (HB.out.drew.trans (hw'.mono HB.out.size)) hrbl HRC.out.2.2.2.2.1
                    try have g7 := cellB' (HB.out.drew.trans (hw'.mono HB.out.size)) hrbl HRC.out.2.2.2.2.2.1
                    try have g8 := cellB' (HB.out.drew.trans (hw'.mono HB.out.size)) hrbl HRC.out.2.2.2.2.2.2
                    go_simp
                    with_reducible rfl
                  simp only [Act.put, List.setIfInBounds_toArray, List.set_cons_zero, List.set_cons_succ]
                  -- 26: slot 74
                  refine wpG_take preGr (i := 26) (v := ?_) (by kernel_rfl) (some 74) (by kernel_rfl) rfl (by kernel_rfl) (by kernel_rfl) (by kernel_rfl) (fun _ _ _ h => h) (by rfl) (fun w' hw' => ?_) rfl ?_
                  rotate_left
                  · try have g0 := cellB' (HB.out.drew.trans (hw'.mono HB.out.size)) hbl HC0.out
                    try have g1 := cellB' (HB.out.drew.trans (hw'.mono HB.out.size)) hbl HC1.out
                    try have g2 := cellB' (HB.out.drew.trans (hw'.mono HB.out.size)) hrbl HRC.out.1
                    try have g3 := cellB' (HB.out.drew.trans (hw'.mono HB.out.size)) hrbl HRC.out.2.1
                    try have g4 := cellB' (HB.out.drew.trans (hw'.mono HB.out.size)) hrbl HRC.out.2.2.1
                    try have g5 := cellB' (HB.out.drew.trans (hw'.mono HB.out.size)) hrbl HRC.out.2.2.2.1
                    try have g6 := cellB' (HB.out.drew.trans (hw'.mono HB.out.size)) hrbl HRC.out.2.2.2.2.1
                    try have g7 := cellB' (HB.out.drew.trans (hw'.mono HB.out.size)) hrbl HRC.out.2.2.2.2.2.1
                    try have g8 := cellB' (HB.out.drew.trans (hw'.mono HB.out.size)) hrbl HRC.out.2.2.2.2.2.2
                    go_simp
                    with_reducible rfl
                  simp only [Act.put, List.setIfInBounds_toArray, List.set_cons_zero, List.set_cons_succ]
                  -- 27: slot 75
                  refine wpG_take preGr (i := 27) (v := ?_) (by kernel_rfl) (some 75) (by kernel_rfl) rfl (by kernel_rfl) (by kernel_rfl) (by kernel_rfl) (fun _ _ _ h => h) (by rfl) (fun w' hw' => ?_) rfl ?_
                  rotate_left
                  · try have g0 := cellB' (HB.out.drew.trans (hw'.mono HB.out.size)) hbl HC0.out
                    try have g1 := cellB' (HB.out.drew.trans (hw'.mono HB.out.size)) hbl HC1.out
                    try have g2 := cellB' (HB.out.drew.trans (hw'.mono HB.out.size)) hrbl HRC.out.1
                    try have g3 := cellB' (HB.out.drew.trans (hw'.mono HB.out.size)) hrbl HRC.out.2.1
                    try have g4 := cellB' (HB.out.drew.trans (hw'.mono HB.out.size)) hrbl HRC.out.2.2.1
                    try have g5 := cellB' (HB.out.drew.trans (hw'.mono HB.out.size)) hrbl HRC.out.2.2.2.1
                    try have g6 := cellB' (HB.out.drew.trans (hw'.mono HB.out.size)) hrbl HRC.out.2.2.2.2.1
                    try have g7 := cellB' (HB.out.drew.trans (hw'.mono HB.out.size)) hrbl HRC.out.2.2.2.2.2.1
                    try have g8 := cellB' (HB.out.drew.trans (hw'.mono HB.out.size)) hrbl HRC.out.2.2.2.2.2.2
                    go_simp
                    with_reducible rfl
                  simp only [Act.put, List.setIfInBounds_toArray, List.set_cons_zero, List.set_cons_succ]
                  refine wpG_pass preGr (i := 28) (by kernel_rfl) (some 76) (by kernel_rfl) rfl (by kernel_rfl) (by kernel_rfl) (by kernel_rfl) (fun _ _ _ h => h) (by rfl) rfl ?_
                  simp only [Act.put, List.setIfInBounds_toArray, List.set_cons_zero, List.set_cons_succ]
                  refine wpG_pass preGr (i := 29) (by kernel_rfl) (some 77) (by kernel_rfl) rfl (by kernel_rfl) (by kernel_rfl) (by kernel_rfl) (fun _ _ _ h => h) (by rfl) rfl ?_
                  simp only [Act.put, List.setIfInBounds_toArray, List.set_cons_zero, List.set_cons_succ]
                  refine wpG_pass preGr (i := 30) (by kernel_rfl) (some 78) (by kernel_rfl) rfl (by kernel_rfl) (by kernel_rfl) (by kernel_rfl) (fun _ _ _ h => h) (by rfl) rfl ?_
                  simp only [Act.put, List.setIfInBounds_toArray, List.set_cons_zero, List.set_cons_succ]
                  refine wpG_pass preGr (i := 31) (by kernel_rfl) (some 79) (by kernel_rfl) rfl (by kernel_rfl) (by kernel_rfl) (by kernel_rfl) (fun _ _ _ h => h) (by rfl) rfl ?_
                  simp only [Act.put, List.setIfInBounds_toArray, List.set_cons_zero, List.set_cons_succ]
                  refine wpG_pass preGr (i := 32) (by kernel_rfl) (some 80) (by kernel_rfl) rfl (by kernel_rfl) (by kernel_rfl) (by kernel_rfl) (fun _ _ _ h => h) (by rfl) rfl ?_
                  simp only [Act.put, List.setIfInBounds_toArray, List.set_cons_zero, List.set_cons_succ]
                  refine wpG_pass preGr (i := 33) (by kernel_rfl) (some 81) (by kernel_rfl) rfl (by kernel_rfl) (by kernel_rfl) (by kernel_rfl) (fun _ _ _ h => h) (by rfl) rfl ?_
                  simp only [Act.put, List.setIfInBounds_toArray, List.set_cons_zero, List.set_cons_succ]
                  refine wpG_pass preGr (i := 34) (by kernel_rfl) (some 82) (by kernel_rfl) rfl (by kernel_rfl) (by kernel_rfl) (by kernel_rfl) (fun _ _ _ h => h) (by rfl) rfl ?_
                  simp only [Act.put, List.setIfInBounds_toArray, List.set_cons_zero, List.set_cons_succ]
                  refine wpG_pass preGr (i := 35) (by kernel_rfl) (some 83) (by kernel_rfl) rfl (by kernel_rfl) (by kernel_rfl) (by kernel_rfl) (fun _ _ _ h => h) (by rfl) rfl ?_
                  simp only [Act.put, List.setIfInBounds_toArray, List.set_cons_zero, List.set_cons_succ]
                  refine wpG_pass preGr (i := 36) (by kernel_rfl) (some 84) (by kernel_rfl) rfl (by kernel_rfl) (by kernel_rfl) (by kernel_rfl) (fun _ _ _ h => h) (by rfl) rfl ?_
                  simp only [Act.put, List.setIfInBounds_toArray, List.set_cons_zero, List.set_cons_succ]
                  refine wpG_pass preGr (i := 37) (by kernel_rfl) (some 85) (by kernel_rfl) rfl (by kernel_rfl) (by kernel_rfl) (by kernel_rfl) (fun _ _ _ h => h) (by rfl) rfl ?_
                  simp only [Act.put, List.setIfInBounds_toArray, List.set_cons_zero, List.set_cons_succ]
                  -- 38: slot 86
                  refine wpG_take preGr (i := 38) (v := ?_) (by kernel_rfl) (some 86) (by kernel_rfl) rfl (by kernel_rfl) (by kernel_rfl) (by kernel_rfl) (fun _ _ _ h => h) (by rfl) (fun w' hw' => ?_) rfl ?_
                  rotate_left
                  · try have g0 := cellB' (HB.out.drew.trans (hw'.mono HB.out.size)) hbl HC0.out
                    try have g1 := cellB' (HB.out.drew.trans (hw'.mono HB.out.size)) hbl HC1.out
                    try have g2 := cellB' (HB.out.drew.trans (hw'.mono HB.out.size)) hrbl HRC.out.1
                    try have g3 := cellB' (HB.out.drew.trans (hw'.mono HB.out.size)) hrbl HRC.out.2.1
                    try have g4 := cellB' (HB.out.drew.trans (hw'.mono HB.out.size)) hrbl HRC.out.2.2.1
                    try have g5 := cellB' (HB.out.drew.trans (hw'.mono HB.out.size)) hrbl HRC.out.2.2.2.1
                    try have g6 := cellB' (HB.out.drew.trans (hw'.mono HB.out.size)) hrbl HRC.out.2.2.2.2.1
                    try have g7 := cellB' (HB.out.drew.trans (hw'.mono HB.out.size)) hrbl HRC.out.2.2.2.2.2.1
                    try have g8 := cellB' (HB.out.drew.trans (hw'.mono HB.out.size)) hrbl HRC.out.2.2.2.2.2.2
                    go_simp
                    with_reducible rfl
                  simp only [Act.put, List.setIfInBounds_toArray, List.set_cons_zero, List.set_cons_succ]
                  -- 39: slot 87
                  refine wpG_take preGr (i := 39) (v := ?_) (by kernel_rfl) (some 87) (by kernel_rfl) rfl (by kernel_rfl) (by kernel_rfl) (by kernel_rfl) (fun _ _ _ h => h) (by rfl) (fun w' hw' => ?_) rfl ?_
                  rotate_left
                  · try have g0 := cellB' (HB.out.drew.trans (hw'.mono HB.out.size)) hbl HC0.out
                    try have g1 := cellB' (HB.out.drew.trans (hw'.mono HB.out.size)) hbl HC1.out
                    try have g2 := cellB' (HB.out.drew.trans (hw'.mono HB.out.size)) hrbl HRC.out.1
                    try have g3 := cellB' (HB.out.drew.trans (hw'.mono HB.out.size)) hrbl HRC.out.2.1
                    try have g4 := cellB' (HB.out.drew.trans (hw'.mono HB.out.size)) hrbl HRC.out.2.2.1
                    try have g5 := cellB' (HB.out.drew.trans (hw'.mono HB.out.size)) hrbl HRC.out.2.2.2.1
                    try have g6 := cellB' (HB.out.drew.trans (hw'.mono HB.out.size)) hrbl HRC.out.2.2.2.2.1
                    try have g7 := cellB' (HB.out.drew.trans (hw'.mono HB.out.size)) hrbl HRC.out.2.2.2.2.2.1
                    try have g8 := cellB' (HB.out.drew.trans (hw'.mono HB.out.size)) hrbl HRC.out.2.2.2.2.2.2
                    go_simp
                    with_reducible rfl
                  simp only [Act.put, List.setIfInBounds_toArray, List.set_cons_zero, List.set_cons_succ]
                  -- 40: slot 12
                  refine wpG_take preGr (i := 40) (v := ?_) (by kernel_rfl) (some 12) (by kernel_rfl) rfl (by kernel_rfl) (by kernel_rfl) (by kernel_rfl) (fun _ _ _ h => h) (by rfl) (fun w' hw' => ?_) rfl ?_
                  rotate_left
                  · try have g0 := cellB' (HB.out.drew.trans (hw'.mono HB.out.size)) hbl HC0.out
                    try have g1 := cellB' (HB.out.drew.trans (hw'.mono HB.out.size)) hbl HC1.out
                    try have g2 := cellB' (HB.out.drew.trans (hw'.mono HB.out.size)) hrbl HRC.out.1
                    try have g3 := cellB' (HB.out.drew.trans (hw'.mono HB.out.size)) hrbl HRC.out.2.1
                    try have g4 := cellB' (HB.out.drew.trans (hw'.mono HB.out.size)) hrbl HRC.out.2.2.1
                    try have g5 := cellB' (HB.out.drew.trans (hw'.mono HB.out.size)) hrbl HRC.out.2.2.2.1
                    try have g6 := cellB' (HB.out.drew.trans (hw'.mono HB.out.size)) hrbl HRC.out.2.2.2.2.1
                    try have g7 := cellB' (HB.out.drew.trans (hw'.mono HB.out.size)) hrbl HRC.out.2.2.2.2.2.1
                    try have g8 := cellB' (HB.out.drew.trans (hw'.mono HB.out.size)) hrbl HRC.out.2.2.2.2.2.2
                    go_simp
                    with_reducible rfl
                  simp only [Act.put, List.setIfInBounds_toArray, List.set_cons_zero, List.set_cons_succ]
                  refine wpG_done (by kernel_rfl) ?_ _
                  go_wp2
                  go_roundw
                  case rel =>
                    have HX := HFS.out
                    first | exact ⟨k + 1, false, by omega, by go_num, rfl, HX, HB.out.drew⟩ | ((repeat apply Exists.intro); exact ⟨⟨k + 1, false, by omega, by go_num, rfl, HX, HB.out.drew⟩, rfl⟩)
                  case measure => simp [intOf]; omega
              · have hte : (r.typ == T) = false := by simpa using ht
                have HFS : Hid (false = fitTo rs (T, l) (k + 1)) := by
                  show _ = _
                  rw [HST.out]
                  have e : fits r (T, l) = false := decide_eq_false (fun h => ht h.1)
                  rw [e]; simp
                clear ht
                go_upto_region 14 with fail
                refine wp_region_G 41 Gr (by kernel_rfl) ?_
                -- 0: slot 48
                refine wpG_take preGr (i := 0) (v := ?_) (by kernel_rfl) (some 48) (by kernel_rfl) rfl (by kernel_rfl) (by kernel_rfl) (by kernel_rfl) (fun _ _ _ h => h) (by rfl) (fun w' hw' => ?_) rfl ?_
                rotate_left
                · try have g0 := cellB' (HB.out.drew.trans (hw'.mono HB.out.size)) hbl HC0.out
                  try have g1 := cellB' (HB.out.drew.trans (hw'.mono HB.out.size)) hbl HC1.out
                  try have g2 := cellB' (HB.out.drew.trans (hw'.mono HB.out.size)) hrbl HRC.out.1
                  try have g3 := cellB' (HB.out.drew.trans (hw'.mono HB.out.size)) hrbl HRC.out.2.1
                  try have g4 := cellB' (HB.out.drew.trans (hw'.mono HB.out.size)) hrbl HRC.out.2.2.1
                  try have g5 := cellB' (HB.out.drew.trans (hw'.mono HB.out.size)) hrbl HRC.out.2.2.2.1
                  try have g6 := cellB' (HB.out.drew.trans (hw'.mono HB.out.size)) hrbl HRC.out.2.2.2.2.1
                  try have g7 := cellB' (HB.out.drew.trans (hw'.mono HB.out.size)) hrbl HRC.out.2.2.2.2.2.1
                  try have g8 := cellB' (HB.out.drew.trans (hw'.mono HB.out.size)) hrbl HRC.out.2.2.2.2.2.2
                  go_simp
                  with_reducible rfl
                simp only [Act.put, List.setIfInBounds_toArray, List.set_cons_zero, List.set_cons_succ]
                -- 1: slot 49
                refine wpG_take preGr (i := 1) (v := ?_) (by kernel_rfl) (some 49) (by kernel_rfl) rfl (by kernel_rfl) (by kernel_rfl) (by kernel_rfl) (fun _ _ _ h => h) (by rfl) (fun w' hw' => ?_) rfl ?_
                rotate_left
                · try have g0 := cellB' (HB.out.drew.trans (hw'.mono HB.out.size)) hbl HC0.out
                  try have g1 := cellB' (HB.out.drew.trans (hw'.mono HB.out.size)) hbl HC1.out
                  try have g2 := cellB' (HB.out.drew.trans (hw'.mono HB.out.size)) hrbl HRC.out.1
                  try have g3 := cellB' (HB.out.drew.trans (hw'.mono HB.out.size)) hrbl HRC.out.2.1
                  try have g4 := cellB' (HB.out.drew.trans (hw'.mono HB.out.size)) hrbl HRC.out.2.2.1
                  try have g5 := cellB' (HB.out.drew.trans (hw'.mono HB.out.size)) hrbl HRC.out.2.2.2.1
                  try have g6 := cellB' (HB.out.drew.trans (hw'.mono HB.out.size)) hrbl HRC.out.2.2.2.2.1
                  try have g7 := cellB' (HB.out.drew.trans (hw'.mono HB.out.size)) hrbl HRC.out.2.2.2.2.2.1
                  try have g8 := cellB' (HB.out.drew.trans (hw'.mono HB.out.size)) hrbl HRC.out.2.2.2.2.2.2
                  go_simp
                  with_reducible rfl
                simp only [Act.put, List.setIfInBounds_toArray, List.set_cons_zero, List.set_cons_succ]
                -- 2: slot 50
                refine wpG_take preGr (i := 2) (v := ?_) (by kernel_rfl) (some 50) (by kernel_rfl) rfl (by kernel_rfl) (by kernel_rfl) (by kernel_rfl) (fun _ _ _ h => h) (by rfl) (fun w' hw' => ?_) rfl ?_
                rotate_left
                · try have g0 := cellB' (HB.out.drew.trans (hw'.mono HB.out.size)) hbl HC0.out
                  try have g1 := cellB' (HB.out.drew.trans (hw'.mono HB.out.size)) hbl HC1.out
                  try have g2 := cellB' (HB.out.drew.trans (hw'.mono HB.out.size)) hrbl HRC.out.1
                  try have g3 := cellB' (HB.out.drew.trans (hw'.mono HB.out.size)) hrbl HRC.out.2.1
                  try have g4 := cellB' (HB.out.drew.trans (hw'.mono HB.out.size)) hrbl HRC.out.2.2.1
                  try have g5 := cellB' (HB.out.drew.trans (hw'.mono HB.out.size)) hrbl HRC.out.2.2.2.1
                  try have g6 := cellB' (HB.out.drew.trans (hw'.mono HB.out.size)) hrbl HRC.out.2.2.2.2.1
                  try have g7 := cellB' (HB.out.drew.trans (hw'.mono HB.out.size)) hrbl HRC.out.2.2.2.2.2.1
                  try have g8 := cellB' (HB.out.drew.trans (hw'.mono HB.out.size)) hrbl HRC.out.2.2.2.2.2.2
                  go_simp
                  with_reducible rfl
                simp only [Act.put, List.setIfInBounds_toArray, List.set_cons_zero, List.set_cons_succ]
                -- 3: slot 51
                refine wpG_take preGr (i := 3) (v := ?_) (by kernel_rfl) (some 51) (by kernel_rfl) rfl (by kernel_rfl) (by kernel_rfl) (by kernel_rfl) (fun _ _ _ h => h) (by rfl) (fun w' hw' => ?_) rfl ?_
                rotate_left
                · try have g0 := cellB' (HB.out.drew.trans (hw'.mono HB.out.size)) hbl HC0.out
                  try have g1 := cellB' (HB.out.drew.trans (hw'.mono HB.out.size)) hbl HC1.out
                  try have g2 := cellB' (HB.out.drew.trans (hw'.mono HB.out.size)) hrbl HRC.out.1
                  try have g3 := cellB' (HB.out.drew.trans (hw'.mono HB.out.size)) hrbl HRC.out.2.1
                  try have g4 := cellB' (HB.out.drew.trans (hw'.mono HB.out.size)) hrbl HRC.out.2.2.1
                  try have g5 := cellB' (HB.out.drew.trans (hw'.mono HB.out.size)) hrbl HRC.out.2.2.2.1
                  try have g6 := cellB' (HB.out.drew.trans (hw'.mono HB.out.size)) hrbl HRC.out.2.2.2.2.1
                  try have g7 := cellB' (HB.out.drew.trans (hw'.mono HB.out.size)) hrbl HRC.out.2.2.2.2.2.1
                  try have g8 := cellB' (HB.out.drew.trans (hw'.mono HB.out.size)) hrbl HRC.out.2.2.2.2.2.2
                  go_simp
                  with_reducible rfl
                simp only [Act.put, List.setIfInBounds_toArray, List.set_cons_zero, List.set_cons_succ]
                -- 4: slot 52
                refine wpG_take preGr (i := 4) (v := ?_) (by kernel_rfl) (some 52) (by kernel_rfl) rfl (by kernel_rfl) (by kernel_rfl) (by kernel_rfl) (fun _ _ _ h => h) (by rfl) (fun w' hw' => ?_) rfl ?_
                rotate_left
                · try have g0 := cellB' (HB.out.drew.trans (hw'.mono HB.out.size)) hbl HC0.out
                  try have g1 := cellB' (HB.out.drew.trans (hw'.mono HB.out.size)) hbl HC1.out
                  try have g2 := cellB' (HB.out.drew.trans (hw'.mono HB.out.size)) hrbl HRC.out.1
                  try have g3 := cellB' (HB.out.drew.trans (hw'.mono HB.out.size)) hrbl HRC.out.2.1
                  try have g4 := cellB' (HB.out.drew.trans (hw'.mono HB.out.size)) hrbl HRC.out.2.2.1
                  try have g5 := cellB' (HB.out.drew.trans (hw'.mono HB.out.size)) hrbl HRC.out.2.2.2.1
                  try have g6 := cellB' (HB.out.drew.trans (hw'.mono HB.out.size)) hrbl HRC.out.2.2.2.2.1
                  try have g7 := cellB' (HB.out.drew.trans (hw'.mono HB.out.size)) hrbl HRC.out.2.2.2.2.2.1
                  try have g8 := cellB' (HB.out.drew.trans (hw'.mono HB.out.size)) hrbl HRC.out.2.2.2.2.2.2
                  go_simp
                  with_reducible rfl
                simp only [Act.put, List.setIfInBounds_toArray, List.set_cons_zero, List.set_cons_succ]
                -- 5: slot 53
                refine wpG_take preGr (i := 5) (v := ?_) (by kernel_rfl) (some 53) (by kernel_rfl) rfl (by kernel_rfl) (by kernel_rfl) (by kernel_rfl) (fun _ _ _ h => h) (by rfl) (fun w' hw' => ?_) rfl ?_
                rotate_left
                · try have g0 := cellB' (HB.out.drew.trans (hw'.mono HB.out.size)) hbl HC0.out
                  try have g1 := cellB' (HB.out.drew.trans (hw'.mono HB.out.size)) hbl HC1.out
                  try have g2 := cellB' (HB.out.drew.trans (hw'.mono HB.out.size)) hrbl HRC.out.1
                  try have g3 := cellB' (HB.out.drew.trans (hw'.mono HB.out.size)) hrbl HRC.out.2.1
                  try have g4 := cellB' (HB.out.drew.trans (hw'.mono HB.out.size)) hrbl HRC.out.2.2.1
                  try have g5 := cellB' (HB.out.drew.trans (hw'.mono HB.out.size)) hrbl HRC.out.2.2.2.1
                  try have g6 := cellB' (HB.out.drew.trans (hw'.mono HB.out.size)) hrbl HRC.out.2.2.2.2.1
                  try have g7 := cellB' (HB.out.drew.trans (hw'.mono HB.out.size)) hrbl HRC.out.2.2.2.2.2.1
                  try have g8 := cellB' (HB.out.drew.trans (hw'.mono HB.out.size)) hrbl HRC.out.2.2.2.2.2.2
                  go_simp
                  with_reducible rfl
                simp only [Act.put, List.setIfInBounds_toArray, List.set_cons_zero, List.set_cons_succ]
                -- 6: slot 54
                refine wpG_take preGr (i := 6) (v := ?_) (by kernel_rfl) (some 54) (by kernel_rfl) rfl (by kernel_rfl) (by kernel_rfl) (by kernel_rfl) (fun _ _ _ h => h) (by rfl) (fun w' hw' => ?_) rfl ?_
                rotate_left
                · try have g0 := cellB' (HB.out.drew.trans (hw'.mono HB.out.size)) hbl HC0.out
                  try have g1 := cellB' (HB.out.drew.trans (hw'.mono HB.out.size)) hbl HC1.out
                  try have g2 := cellB' (HB.out.drew.trans (hw'.mono HB.out.size)) hrbl HRC.out.1
                  try have g3 := cellB' (HB.out.drew.trans (hw'.mono HB.out.size)) hrbl HRC.out.2.1
                  try have g4 := cellB' (HB.out.drew.trans (hw'.mono HB.out.size)) hrbl HRC.out.2.2.1
                  try have g5 := cellB' (HB.out.drew.trans (hw'.mono HB.out.size)) hrbl HRC.out.2.2.2.1
                  try have g6 := cellB' (HB.out.drew.trans (hw'.mono HB.out.size)) hrbl HRC.out.2.2.2.2.1
                  try have g7 := cellB' (HB.out.drew.trans (hw'.mono HB.out.size)) hrbl HRC.out.2.2.2.2.2.1
                  try have g8 := cellB' (HB.out.drew.trans (hw'.mono HB.out.size)) hrbl HRC.out.2.2.2.2.2.2
                  go_simp
                  with_reducible rfl
                simp only [Act.put, List.setIfInBounds_toArray, List.set_cons_zero, List.set_cons_succ]
                -- 7: slot 55
                refine wpG_take preGr (i := 7) (v := ?_) (by kernel_rfl) (some 55) (by kernel_rfl) rfl (by kernel_rfl) (by kernel_rfl) (by kernel_rfl) (fun _ _ _ h => h) (by rfl) (fun w' hw' => ?_) rfl ?_
                rotate_left
                · try have g0 := cellB' (HB.out.drew.trans (hw'.mono HB.out.size)) hbl HC0.out
                  try have g1 := cellB' (HB.out.drew.trans (hw'.mono HB.out.size)) hbl HC1.out
                  try have g2 := cellB' (HB.out.drew.trans (hw'.mono HB.out.size)) hrbl HRC.out.1
                  try have g3 := cellB' (HB.out.drew.trans (hw'.mono HB.out.size)) hrbl HRC.out.2.1
                  try have g4 := cellB' (HB.out.drew.trans (hw'.mono HB.out.size)) hrbl HRC.out.2.2.1
                  try have g5 := cellB' (HB.out.drew.trans (hw'.mono HB.out.size)) hrbl HRC.out.2.2.2.1
                  try have g6 := cellB' (HB.out.drew.trans (hw'.mono HB.out.size)) hrbl HRC.out.2.2.2.2.1
                  try have g7 := cellB' (HB.out.drew.trans (hw'.mono HB.out.size)) hrbl HRC.out.2.2.2.2.2.1
                  try have g8 := cellB' (HB.out.drew.trans (hw'.mono HB.out.size)) hrbl HRC.out.2.2.2.2.2.2
                  go_simp
                  with_reducible rfl
                simp only [Act.put, List.setIfInBounds_toArray, List.set_cons_zero, List.set_cons_succ]
                -- 8: slot 56
                refine wpG_take preGr (i := 8) (v := ?_) (by kernel_rfl) (some 56) (by kernel_rfl) rfl (by kernel_rfl) (by kernel_rfl) (by kernel_rfl) (fun _ _ _ h => h) (by rfl) (fun w' hw' => ?_) rfl ?_
                rotate_left
                · try have g0 := cellB' (HB.out.drew.trans (hw'.mono HB.out.size)) hbl HC0.out
                  try have g1 := cellB' (HB.out.drew.trans (hw'.mono HB.out.size)) hbl HC1.out
                  try have g2 := cellB' (HB.out.drew.trans (hw'.mono HB.out.size)) hrbl HRC.out.1
                  try have g3 := cellB' (HB.out.drew.trans (hw'.mono HB.out.size)) hrbl HRC.out.2.1
                  try have g4 := cellB' (HB.out.drew.trans (hw'.mono HB.out.size)) hrbl HRC.out.2.2.1
                  try have g5 := cellB' (HB.out.drew.trans (hw'.mono HB.out.size)) hrbl HRC.out.2.2.2.1
                  try have g6 := cellB' (HB.out.drew.trans (hw'.mono HB.out.size)) hrbl HRC.out.2.2.2.2.1
                  try have g7 := cellB' (HB.out.drew.trans (hw'.mono HB.out.size)) hrbl HRC.out.2.2.2.2.2.1
                  try have g8 := cellB' (HB.out.drew.trans (hw'.mono HB.out.size)) hrbl HRC.out.2.2.2.2.2.2
                  go_simp
                  with_reducible rfl
                simp only [Act.put, List.setIfInBounds_toArray, List.set_cons_zero, List.set_cons_succ]
                -- 9: slot 57
                refine wpG_take preGr (i := 9) (v := ?_) (by kernel_rfl) (some 57) (by kernel_rfl) rfl (by kernel_rfl) (by kernel_rfl) (by kernel_rfl) (fun _ _ _ h => h) (by rfl) (fun w' hw' => ?_) rfl ?_
                rotate_left
                · try have g0 := cellB' (HB.out.drew.trans (hw'.mono HB.out.size)) hbl HC0.out
                  try have g1 := cellB' (HB.out.drew.trans (hw'.mono HB.out.size)) hbl HC1.out
                  try have g2 := cellB' (HB.out.drew.trans (hw'.mono HB.out.size)) hrbl HRC.out.1
                  try have g3 := cellB' (HB.out.drew.trans (hw'.mono HB.out.size)) hrbl HRC.out.2.1
                  try have g4 := cellB' (HB.out.drew.trans (hw'.mono HB.out.size)) hrbl HRC.out.2.2.1
                  try have g5 := cellB' (HB.out.drew.trans (hw'.mono HB.out.size)) hrbl HRC.out.2.2.2.1
                  try have g6 := cellB' (HB.out.drew.trans (hw'.mono HB.out.size)) hrbl HRC.out.2.2.2.2.1
                  try have g7 := cellB' (HB.out.drew.trans (hw'.mono HB.out.size)) hrbl HRC.out.2.2.2.2.2.1
                  try have g8 := cellB' (HB.out.drew.trans (hw'.mono HB.out.size)) hrbl HRC.out.2.2.2.2.2.2
                  go_simp
                  with_reducible rfl
                simp only [Act.put, List.setIfInBounds_toArray, List.set_cons_zero, List.set_cons_succ]
                -- 10: slot 58
                refine wpG_take preGr (i := 10) (v := ?_) (by kernel_rfl) (some 58) (by kernel_rfl) rfl (by kernel_rfl) (by kernel_rfl) (by kernel_rfl) (fun _ _ _ h => h) (by rfl) (fun w' hw' => ?_) rfl ?_
                rotate_left
                · try have g0 := cellB' (HB.out.drew.trans (hw'.mono HB.out.size)) hbl HC0.out
                  try have g1 := cellB' (HB.out.drew.trans (hw'.mono HB.out.size)) hbl HC1.out
                  try have g2 := cellB' (HB.out.drew.trans (hw'.mono HB.out.size)) hrbl HRC.out.1
                  try have g3 := cellB' (HB.out.drew.trans (hw'.mono HB.out.size)) hrbl HRC.out.2.1
                  try have g4 := cellB' (HB.out.drew.trans (hw'.mono HB.out.size)) hrbl HRC.out.2.2.1
                  try have g5 := cellB' (HB.out.drew.trans (hw'.mono HB.out.size)) hrbl HRC.out.2.2.2.1
                  try have g6 := cellB' (HB.out.drew.trans (hw'.mono HB.out.size)) hrbl HRC.out.2.2.2.2.1
                  try have g7 := cellB' (HB.out.drew.trans (hw'.mono HB.out.size)) hrbl HRC.out.2.2.2.2.2.1
                  try have g8 := cellB' (HB.out.drew.trans (hw'.mono HB.out.size)) hrbl HRC.out.2.2.2.2.2.2
                  go_simp
                  with_reducible rfl
                simp only [Act.put, List.setIfInBounds_toArray, List.set_cons_zero, List.set_cons_succ]
                -- 11: slot 59
                refine wpG_take preGr (i := 11) (v := ?_) (by kernel_rfl) (some 59) (by kernel_rfl) rfl (by kernel_rfl) (by kernel_rfl) (by kernel_rfl) (fun _ _ _ h => h) (by rfl) (fun w' hw' => ?_) rfl ?_
                rotate_left
                · try have g0 := cellB' (HB.out.drew.trans (hw'.mono HB.out.size)) hbl HC0.out
                  try have g1 := cellB' (HB.out.drew.trans (hw'.mono HB.out.size)) hbl HC1.out
                  try have g2 := cellB' (HB.out.drew.trans (hw'.mono HB.out.size)) hrbl HRC.out.1
                  try have g3 := cellB' (HB.out.drew.trans (hw'.mono HB.out.size)) hrbl HRC.out.2.1
                  try have g4 := cellB' (HB.out.drew.trans (hw'.mono HB.out.size)) hrbl HRC.out.2.2.1
                  try have g5 := cellB' (HB.out.drew.trans (hw'.mono HB.out.size)) hrbl HRC.out.2.2.2.1
                  try have g6 := cellB' (HB.out.drew.trans (hw'.mono HB.out.size)) hrbl HRC.out.2.2.2.2.1
                  try have g7 := cellB' (HB.out.drew.trans (hw'.mono HB.out.size)) hrbl HRC.out.2.2.2.2.2.1
                  try have g8 := cellB' (HB.out.drew.trans (hw'.mono HB.out.size)) hrbl HRC.out.2.2.2.2.2.2
                  go_simp
                  with_reducible rfl
                simp only [Act.put, List.setIfInBounds_toArray, List.set_cons_zero, List.set_cons_succ]
                -- 12: slot 60
                refine wpG_take preGr (i := 12) (v := ?_) (by kernel_rfl) (some 60) (by kernel_rfl) rfl (by kernel_rfl) (by kernel_rfl) (by kernel_rfl) (fun _ _ _ h => h) (by rfl) (fun w' hw' => ?_) rfl ?_
                rotate_left
                · try have g0 := cellB' (HB.out.drew.trans (hw'.mono HB.out.size)) hbl HC0.out
                  try have g1 := cellB' (HB.out.drew.trans (hw'.mono HB.out.size)) hbl HC1.out
                  try have g2 := cellB' (HB.out.drew.trans (hw'.mono HB.out.size)) hrbl HRC.out.1
                  try have g3 := cellB' (HB.out.drew.trans (hw'.mono HB.out.size)) hrbl HRC.out.2.1
                  try have g4 := cellB' (HB.out.drew.trans (hw'.mono HB.out.size)) hrbl HRC.out.2.2.1
                  try have g5 := cellB' (HB.out.drew.trans (hw'.mono HB.out.size)) hrbl HRC.out.2.2.2.1
                  try have g6 := cellB' (HB.out.drew.trans (hw'.mono HB.out.size)) hrbl HRC.out.2.2.2.2.1
                  try have g7 := cellB' (HB.out.drew.trans (hw'.mono HB.out.size)) hrbl HRC.out.2.2.2.2.2.1
                  try have g8 := cellB' (HB.out.drew.trans (hw'.mono HB.out.size)) hrbl HRC.out.2.2.2.2.2.2
                  go_simp
                  with_reducible rfl
                simp only [Act.put, List.setIfInBounds_toArray, List.set_cons_zero, List.set_cons_succ]
                -- 13: slot 61
                refine wpG_take preGr (i := 13) (v := ?_) (by kernel_rfl) (some 61) (by kernel_rfl) rfl (by kernel_rfl) (by kernel_rfl) (by kernel_rfl) (fun _ _ _ h => h) (by rfl) (fun w' hw' => ?_) rfl ?_
                rotate_left
                · try have g0 := cellB' (HB.out.drew.trans (hw'.mono HB.out.size)) hbl HC0.out
                  try have g1 := cellB' (HB.out.drew.trans (hw'.mono HB.out.size)) hbl HC1.out
                  try have g2 := cellB' (HB.out.drew.trans (hw'.mono HB.out.size)) hrbl HRC.out.1
                  try have g3 := cellB' (HB.out.drew.trans (hw'.mono HB.out.size)) hrbl HRC.out.2.1
                  try have g4 := cellB' (HB.out.drew.trans (hw'.mono HB.out.size)) hrbl HRC.out.2.2.1
                  try have g5 := cellB' (HB.out.drew.trans (hw'.mono HB.out.size)) hrbl HRC.out.2.2.2.1
                  try have g6 := cellB' (HB.out.drew.trans (hw'.mono HB.out.size)) hrbl HRC.out.2.2.2.2.1
                  try have g7 := cellB' (HB.out.drew.trans (hw'.mono HB.out.size)) hrbl HRC.out.2.2.2.2.2.1
                  try have g8 := cellB' (HB.out.drew.trans (hw'.mono HB.out.size)) hrbl HRC.out.2.2.2.2.2.2
                  go_simp
                  with_reducible rfl
                simp only [Act.put, List.setIfInBounds_toArray, List.set_cons_zero, List.set_cons_succ]
                refine wpG_pass preGr (i := 14) (by kernel_rfl) (some 62) (by kernel_rfl) rfl (by kernel_rfl) (by kernel_rfl) (by kernel_rfl) (fun _ _ _ h => h) (by rfl) rfl ?_
                simp only [Act.put, List.setIfInBounds_toArray, List.set_cons_zero, List.set_cons_succ]
                refine wpG_pass preGr (i := 15) (by kernel_rfl) (some 63) (by kernel_rfl) rfl (by kernel_rfl) (by kernel_rfl) (by kernel_rfl) (fun _ _ _ h => h) (by rfl) rfl ?_
                simp only [Act.put, List.setIfInBounds_toArray, List.set_cons_zero, List.set_cons_succ]
                refine wpG_pass preGr (i := 16) (by kernel_rfl) (some 64) (by kernel_rfl) rfl (by kernel_rfl) (by kernel_rfl) (by kernel_rfl) (fun _ _ _ h => h) (by rfl) rfl ?_
                simp only [Act.put, List.setIfInBounds_toArray, List.set_cons_zero, List.set_cons_succ]
                refine wpG_pass preGr (i := 17) (by kernel_rfl) (some 65) (by kernel_rfl) rfl (by kernel_rfl) (by kernel_rfl) (by kernel_rfl) (fun _ _ _ h => h) (by rfl) rfl ?_
                simp only [Act.put, List.setIfInBounds_toArray, List.set_cons_zero, List.set_cons_succ]
                refine wpG_pass preGr (i := 18) (by kernel_rfl) (some 66) (by kernel_rfl) rfl (by kernel_rfl) (by kernel_rfl) (by kernel_rfl) (fun _ _ _ h => h) (by rfl) rfl ?_
                simp only [Act.put, List.setIfInBounds_toArray, List.set_cons_zero, List.set_cons_succ]
                refine wpG_pass preGr (i := 19) (by kernel_rfl) (some 67) (by kernel_rfl) rfl (by kernel_rfl) (by kernel_rfl) (by kernel_rfl) (fun _ _ _ h => h) (by rfl) rfl ?_
                simp only [Act.put, List.setIfInBounds_toArray, List.set_cons_zero, List.set_cons_succ]
                refine wpG_pass preGr (i := 20) (by kernel_rfl) (some 68) (by kernel_rfl) rfl (by kernel_rfl) (by kernel_rfl) (by kernel_rfl) (fun _ _ _ h => h) (by rfl) rfl ?_
                simp only [Act.put, List.setIfInBounds_toArray, List.set_cons_zero, List.set_cons_succ]
                refine wpG_pass preGr (i := 21) (by kernel_rfl) (some 69) (by kernel_rfl) rfl (by kernel_rfl) (by kernel_rfl) (by kernel_rfl) (fun _ _ _ h => h) (by rfl) rfl ?_
                simp only [Act.put, List.setIfInBounds_toArray, List.set_cons_zero, List.set_cons_succ]
                refine wpG_pass preGr (i := 22) (by kernel_rfl) (some 70) (by kernel_rfl) rfl (by kernel_rfl) (by kernel_rfl) (by kernel_rfl) (fun _ _ _ h => h) (by rfl) rfl ?_
                simp only [Act.put, List.setIfInBounds_toArray, List.set_cons_zero, List.set_cons_succ]
                refine wpG_pass preGr (i := 23) (by kernel_rfl) (some 71) (by kernel_rfl) rfl (by kernel_rfl) (by kernel_rfl) (by kernel_rfl) (fun _ _ _ h => h) (by rfl) rfl ?_
                simp only [Act.put, List.setIfInBounds_toArray, List.set_cons_zero, List.set_cons_succ]
                refine wpG_pass preGr (i := 24) (by kernel_rfl) (some 72) (by kernel_rfl) rfl (by kernel_rfl) (by kernel_rfl) (by kernel_rfl) (fun _ _ _ h => h) (by rfl) rfl ?_
                simp only [Act.put, List.setIfInBounds_toArray, List.set_cons_zero, List.set_cons_succ]
                refine wpG_pass preGr (i := 25) (by kernel_rfl) (some 73) (by kernel_rfl) rfl (by kernel_rfl) (by kernel_rfl) (by kernel_rfl) (fun _ _ _ h => h) (by rfl) rfl ?_
                simp only [Act.put, List.setIfInBounds_toArray, List.set_cons_zero, List.set_cons_succ]
                -- 26: slot 74
                refine wpG_take preGr (i := 26) (v := ?_) (by kernel_rfl) (some 74) (by kernel_rfl) rfl (by kernel_rfl) (by kernel_rfl) (by kernel_rfl) (fun _ _ _ h => h) (by rfl) (fun w' hw' => ?_) rfl ?_
                rotate_left
                · try have g0 := cellB' (HB.out.drew.trans (hw'.mono HB.out.size)) hbl HC0.out
                  try have g1 := cellB' (HB.out.drew.trans (hw'.mono HB.out.size)) hbl HC1.out
                  try have g2 := cellB' (HB.out.drew.trans (hw'.mono HB.out.size)) hrbl HRC.out.1
                  try have g3 := cellB' (HB.out.drew.trans (hw'.mono HB.out.size)) hrbl HRC.out.2.1
                  try have g4 := cellB' (HB.out.drew.trans (hw'.mono HB.out.size)) hrbl HRC.out.2.2.1
                  try have g5 := cellB' (HB.out.drew.trans (hw'.mono HB.out.size)) hrbl HRC.out.2.2.2.1
                  try have g6 := cellB' (HB.out.drew.trans (hw'.mono HB.out.size)) hrbl HRC.out.2.2.2.2.1
                  try have g7 := cellB' (HB.out.drew.trans (hw'.mono HB.out.size)) hrbl HRC.out.2.2.2.2.2.1
                  try have g8 := cellB' (HB.out.drew.trans (hw'.mono HB.out.size)) hrbl HRC.out.2.2.2.2.2.2
                  go_simp
                  with_reducible rfl
                simp only [Act.put, List.setIfInBounds_toArray, List.set_cons_zero, List.set_cons_succ]
                -- 27: slot 75
                refine wpG_take preGr (i := 27) (v := ?_) (by kernel_rfl) (some 75) (by kernel_rfl) rfl (by kernel_rfl) (by kernel_rfl) (by kernel_rfl) (fun _ _ _ h => h) (by rfl) (fun w' hw' => ?_) rfl ?_
                rotate_left
                · try have g0 := cellB' (HB.out.drew.trans (hw'.mono HB.out.size)) hbl HC0.out
                  try have g1 := cellB' (HB.out.drew.trans (hw'.mono HB.out.size)) hbl HC1.out
                  try have g2 := cellB' (HB.out.drew.trans (hw'.mono HB.out.size)) hrbl HRC.out.1
                  try have g3 := cellB' (HB.out.drew.trans (hw'.mono HB.out.size)) hrbl HRC.out.2.1
                  try have g4 := cellB' (HB.out.drew.trans (hw'.mono HB.out.size)) hrbl HRC.out.2.2.1
                  try have g5 := cellB' (HB.out.drew.trans (hw'.mono HB.out.size)) hrbl HRC.out.2.2.2.1
                  try have g6 := cellB' (HB.out.drew.trans (hw'.mono HB.out.size)) hrbl HRC.out.2.2.2.2.1
                  try have g7 := cellB' (HB.out.drew.trans (hw'.mono HB.out.size)) hrbl HRC.out.2.2.2.2.2.1
                  try have g8 := cellB' (HB.out.drew.trans (hw'.mono HB.out.size)) hrbl HRC.out.2.2.2.2.2.2
                  go_simp
                  with_reducible rfl
                simp only [Act.put, List.setIfInBounds_toArray, List.set_cons_zero, List.set_cons_succ]
                refine wpG_pass preGr (i := 28) (by kernel_rfl) (some 76) (by kernel_rfl) rfl (by kernel_rfl) (by kernel_rfl) (by kernel_rfl) (fun _ _ _ h => h) (by rfl) rfl ?_
                simp only [Act.put, List.setIfInBounds_toArray, List.set_cons_zero, List.set_cons_succ]
                refine wpG_pass preGr (i := 29) (by kernel_rfl) (some 77) (by kernel_rfl) rfl (by kernel_rfl) (by kernel_rfl) (by kernel_rfl) (fun _ _ _ h => h) (by rfl) rfl ?_
                simp only [Act.put, List.setIfInBounds_toArray, List.set_cons_zero, List.set_cons_succ]
                refine wpG_pass preGr (i := 30) (by kernel_rfl) (some 78) (by kernel_rfl) rfl (by kernel_rfl) (by kernel_rfl) (by kernel_rfl) (fun _ _ _ h => h) (by rfl) rfl ?_
                simp only [Act.put, List.setIfInBounds_toArray, List.set_cons_zero, List.set_cons_succ]
                refine wpG_pass preGr (i := 31) (by kernel_rfl) (some 79) (by kernel_rfl) rfl (by kernel_rfl) (by kernel_rfl) (by kernel_rfl) (fun _ _ _ h => h) (by rfl) rfl ?_
                simp only [Act.put, List.setIfInBounds_toArray, List.set_cons_zero, List.set_cons_succ]
                refine wpG_pass preGr (i := 32) (by kernel_rfl) (some 80) (by kernel_rfl) rfl (by kernel_rfl) (by kernel_rfl) (by kernel_rfl) (fun _ _ _ h => h) (by rfl) rfl ?_
                simp only [Act.put, List.setIfInBounds_toArray, List.set_cons_zero, List.set_cons_succ]
                refine wpG_pass preGr (i := 33) (by kernel_rfl) (some 81) (by kernel_rfl) rfl (by kernel_rfl) (by kernel_rfl) (by kernel_rfl) (fun _ _ _ h => h) (by rfl) rfl ?_
                simp only [Act.put, List.setIfInBounds_toArray, List.set_cons_zero, List.set_cons_succ]
                refine wpG_pass preGr (i := 34) (by kernel_rfl) (some 82) (by kernel_rfl) rfl (by kernel_rfl) (by kernel_rfl) (by kernel_rfl) (fun _ _ _ h => h) (by rfl) rfl ?_
                simp only [Act.put, List.setIfInBounds_toArray, List.set_cons_zero, List.set_cons_succ]
                refine wpG_pass preGr (i := 35) (by kernel_rfl) (some 83) (by kernel_rfl) rfl (by kernel_rfl) (by kernel_rfl) (by kernel_rfl) (fun _ _ _ h => h) (by rfl) rfl ?_
                simp only [Act.put, List.setIfInBounds_toArray, List.set_cons_zero, List.set_cons_succ]
                refine wpG_pass preGr (i := 36) (by kernel_rfl) (some 84) (by kernel_rfl) rfl (by kernel_rfl) (by kernel_rfl) (by kernel_rfl) (fun _ _ _ h => h) (by rfl) rfl ?_
                simp only [Act.put, List.setIfInBounds_toArray, List.set_cons_zero, List.set_cons_succ]
                refine wpG_pass preGr (i := 37) (by kernel_rfl) (some 85) (by kernel_rfl) rfl (by kernel_rfl) (by kernel_rfl) (by kernel_rfl) (fun _ _ _ h => h) (by rfl) rfl ?_
                simp only [Act.put, List.setIfInBounds_toArray, List.set_cons_zero, List.set_cons_succ]
                -- 38: slot 86
                refine wpG_take preGr (i := 38) (v := ?_) (by kernel_rfl) (some 86) (by kernel_rfl) rfl (by kernel_rfl) (by kernel_rfl) (by kernel_rfl) (fun _ _ _ h => h) (by rfl) (fun w' hw' => ?_) rfl ?_
                rotate_left
                · try have g0 := cellB' (HB.out.drew.trans (hw'.mono HB.out.size)) hbl HC0.out
                  try have g1 := cellB' (HB.out.drew.trans (hw'.mono HB.out.size)) hbl HC1.out
                  try have g2 := cellB' (HB.out.drew.trans (hw'.mono HB.out.size)) hrbl HRC.out.1
                  try have g3 := cellB' (HB.out.drew.trans (hw'.mono HB.out.size)) hrbl HRC.out.2.1
                  try have g4 := cellB' (HB.out.drew.trans (hw'.mono HB.out.size)) hrbl HRC.out.2.2.1
                  try have g5 := cellB' (HB.out.drew.trans (hw'.mono HB.out.size)) hrbl HRC.out.2.2.2.1
                  try have g6 := cellB' (HB.out.drew.trans (hw'.mono HB.out.size)) hrbl HRC.out.2.2.2.2.1
                  try have g7 := cellB' (HB.out.drew.trans (hw'.mono HB.out.size)) hrbl HRC.out.2.2.2.2.2.1
                  try have g8 := cellB' (HB.out.drew.trans (hw'.mono HB.out.size)) hrbl HRC.out.2.2.2.2.2.2
                  go_simp
                  with_reducible rfl
                simp only [Act.put, List.setIfInBounds_toArray, List.set_cons_zero, List.set_cons_succ]
                -- 39: slot 87
                refine wpG_take preGr (i := 39) (v := ?_) (by kernel_rfl) (some 87) (by kernel_rfl) rfl (by kernel_rfl) (by kernel_rfl) (by kernel_rfl) (fun _ _ _ h => h) (by rfl) (fun w' hw' => ?_) rfl ?_
                rotate_left
                · try have g0 := cellB' (HB.out.drew.trans (hw'.mono HB.out.size)) hbl HC0.out
                  try have g1 := cellB' (HB.out.drew.trans (hw'.mono HB.out.size)) hbl HC1.out
                  try have g2 := cellB' (HB.out.drew.trans (hw'.mono HB.out.size)) hrbl HRC.out.1
                  try have g3 := cellB' (HB.out.drew.trans (hw'.mono HB.out.size)) hrbl HRC.out.2.1
                  try have g4 := cellB' (HB.out.drew.trans (hw'.mono HB.out.size)) hrbl HRC.out.2.2.1
                  try have g5 := cellB' (HB.out.drew.trans (hw'.mono HB.out.size)) hrbl HRC.out.2.2.2.1
                  try have g6 := cellB' (HB.out.drew.trans (hw'.mono HB.out.size)) hrbl HRC.out.2.2.2.2.1
                  try have g7 := cellB' (HB.out.drew.trans (hw'.mono HB.out.size)) hrbl HRC.out.2.2.2.2.2.1
                  try have g8 := cellB' (HB.out.drew.trans (hw'.mono HB.out.size)) hrbl HRC.out.2.2.2.2.2.2
                  go_simp
                  with_reducible rfl
                simp only [Act.put, List.setIfInBounds_toArray, List.set_cons_zero, List.set_cons_succ]
                -- 40: slot 12
                refine wpG_take preGr (i := 40) (v := ?_) (by kernel_rfl) (some 12) (by kernel_rfl) rfl (by kernel_rfl) (by kernel_rfl) (by kernel_rfl) (fun _ _ _ h => h) (by rfl) (fun w' hw' => ?_) rfl ?_
                rotate_left
                · try have g0 := cellB' (HB.out.drew.trans (hw'.mono HB.out.size)) hbl HC0.out
                  try have g1 := cellB' (HB.out.drew.trans (hw'.mono HB.out.size)) hbl HC1.out
                  try have g2 := cellB' (HB.out.drew.trans (hw'.mono HB.out.size)) hrbl HRC.out.1
                  try have g3 := cellB' (HB.out.drew.trans (hw'.mono HB.out.size)) hrbl HRC.out.2.1
                  try have g4 := cellB' (HB.out.drew.trans (hw'.mono HB.out.size)) hrbl HRC.out.2.2.1
                  try have g5 := cellB' (HB.out.drew.trans (hw'.mono HB.out.size)) hrbl HRC.out.2.2.2.1
                  try have g6 := cellB' (HB.out.drew.trans (hw'.mono HB.out.size)) hrbl HRC.out.2.2.2.2.1
                  try have g7 := cellB' (HB.out.drew.trans (hw'.mono HB.out.size)) hrbl HRC.out.2.2.2.2.2.1
                  try have g8 := cellB' (HB.out.drew.trans (hw'.mono HB.out.size)) hrbl HRC.out.2.2.2.2.2.2
                  go_simp
                  with_reducible rfl
                simp only [Act.put, List.setIfInBounds_toArray, List.set_cons_zero, List.set_cons_succ]
                refine wpG_done (by kernel_rfl) ?_ _
                go_wp2
                go_roundw
                case rel =>
                  have HX := HFS.out
                  first | exact ⟨k + 1, false, by omega, by go_num, rfl, HX, HB.out.drew⟩ | ((repeat apply Exists.intro); exact ⟨⟨k + 1, false, by omega, by go_num, rfl, HX, HB.out.drew⟩, rfl⟩)
                case measure => simp [intOf]; omega
          · obtain rfl : k = m := by omega
            obtain rfl : q = true := by
              obtain ⟨r, h0, h1, h2, h3⟩ := HFI.out
              rw [HQ.out, ← hrl]
              exact fitTo_all h0 h1 h2 h3
            go_wp2
            go_roundw
            case rel =>
              first | exact ⟨i + 1, by omega, by go_num, HB.out⟩ | ((repeat apply Exists.intro); exact ⟨⟨i + 1, by omega, by go_num, HB.out⟩, rfl⟩)
            case measure => simp [intOf]; omega
      · obtain rfl : i = n := by omega
        obtain ⟨wA, hwA⟩ : ∃ x, x = wr := ⟨_, rfl⟩
        subst hwA
        go_wp2
        go_loopw [14] (fun kv wr => ∃ k : Nat, k ≤ m ∧ kv = .int .i64 (k : Int) ∧ Below w4.heap.size w4 wr) (fun kv _ => m - (intOf kv).toNat)
        case atStart => exact ⟨0, Nat.zero_le _, rfl, HB0.out⟩
        case round =>
          obtain ⟨k, hk, rfl, hb⟩ := hrel
          have HB1 := Lib.hid hb
          clear hb
          by_cases hlt2 : k < m
          · obtain ⟨rb, ro, rfl, hrbl, hrc⟩ := HR4.out.cells (by omega)
            have hrck := hrc k (by omega)
            obtain ⟨r, hr⟩ : ∃ r, r = rs[k] := ⟨_, rfl⟩
            rw [← hr] at hrck
            have HRC := Lib.hid hrck
            have HTH : Hid (thereTo r (plain ts) (plain ts).length = true) := by
              show _ = _
              unfold thereTo
              rw [List.take_length]
              cases hmu : r.must with
              | false => rfl
              | true => rw [HLACK.out r (by rw [hr]; exact List.getElem_mem _) hmu]; rfl
            have hkm : (k : Int) < (m : Int) := by omega
            have q6 := cellB' HB1.out hrbl HRC.out.2.2.2.2.2.2
            obtain ⟨wB, hwB⟩ : ∃ x, x = wr := ⟨_, rfl⟩
            subst hwB
            clear hrc hrck hr
            go_wp2
            clear q6
            go_loopw [15, 16] (fun tv jv wr => ∃ (j : Nat) (q : Bool), j ≤ i ∧ jv = .int .i64 (j : Int) ∧ tv = .bool q ∧ q = thereTo r (plain ts) j ∧ Below w4.heap.size w4 wr) (fun _ jv _ => i - (intOf jv).toNat)
            case atStart => exact ⟨0, _, Nat.zero_le _, rfl, rfl, (thereTo_zero _ _).symm, HB1.out⟩
            case round =>
              obtain ⟨j, q, hj, rfl, rfl, hq, hb⟩ := hrel
              have HQ := Lib.hid hq
              have HB := Lib.hid hb
              clear hq hb
              by_cases hlt3 : j < i
              · obtain ⟨b, o, rfl, hbl, hc⟩ := HT4.out.cells (by omega)
                obtain ⟨hc0, hc1⟩ := hc j (by omega)
                obtain ⟨T, hT⟩ : ∃ T, T = ts[j].typ := ⟨_, rfl⟩
                rw [← hT] at hc0
                have HC0 := Lib.hid hc0
                have HST : Hid (thereTo r (plain ts) (j + 1) = (q || decide (T = r.typ))) := by
                  show _ = _
                  rw [thereTo_succ _ _ _ (by rw [plain_length]; omega), ← HQ.out, plain_get _ _ (by omega), hT]
                have hji : (j : Int) < (i : Int) := by omega
                clear hc hc0 hc1 hT
                cases q with
                | true =>
                  have HFS : Hid (true = thereTo r (plain ts) (j + 1)) := by show _ = _; rw [HST.out]; rfl
                  go_upto_region 24 with fail
                  refine wp_region_G 15 Gr (by kernel_rfl) ?_
                  -- 0: slot 108
                  refine wpG_take preGr (i := 0) (v := ?_) (by kernel_rfl) (some 108) (by kernel_rfl) rfl (by kernel_rfl) (by kernel_rfl) (by kernel_rfl) (fun _ _ _ h => h) (by rfl) (fun w' hw' => ?_) rfl ?_
                  rotate_left
                  · go_simp
                    with_reducible rfl
                  simp only [Act.put, List.setIfInBounds_toArray, List.set_cons_zero, List.set_cons_succ]
                  -- 1: slot 109
                  refine wpG_take preGr (i := 1) (v := ?_) (by kernel_rfl) (some 109) (by kernel_rfl) rfl (by kernel_rfl) (by kernel_rfl) (by kernel_rfl) (fun _ _ _ h => h) (by rfl) (fun w' hw' => ?_) rfl ?_
                  rotate_left
                  · go_simp
                    with_reducible rfl
                  simp only [Act.put, List.setIfInBounds_toArray, List.set_cons_zero, List.set_cons_succ]
                  refine wpG_pass preGr (i := 2) (by kernel_rfl) (some 110) (by kernel_rfl) rfl (by kernel_rfl) (by kernel_rfl) (by kernel_rfl) (fun _ _ _ h => h) (by rfl) rfl ?_
                  simp only [Act.put, List.setIfInBounds_toArray, List.set_cons_zero, List.set_cons_succ]
                  refine wpG_pass preGr (i := 3) (by kernel_rfl) (some 111) (by kernel_rfl) rfl (by kernel_rfl) (by kernel_rfl) (by kernel_rfl) (fun _ _ _ h => h) (by rfl) rfl ?_
                  simp only [Act.put, List.setIfInBounds_toArray, List.set_cons_zero, List.set_cons_succ]
                  refine wpG_pass preGr (i := 4) (by kernel_rfl) (some 112) (by kernel_rfl) rfl (by kernel_rfl) (by kernel_rfl) (by kernel_rfl) (fun _ _ _ h => h) (by rfl) rfl ?_
                  simp only [Act.put, List.setIfInBounds_toArray, List.set_cons_zero, List.set_cons_succ]
                  refine wpG_pass preGr (i := 5) (by kernel_rfl) (some 113) (by kernel_rfl) rfl (by kernel_rfl) (by kernel_rfl) (by kernel_rfl) (fun _ _ _ h => h) (by rfl) rfl ?_
                  simp only [Act.put, List.setIfInBounds_toArray, List.set_cons_zero, List.set_cons_succ]
                  refine wpG_pass preGr (i := 6) (by kernel_rfl) (some 114) (by kernel_rfl) rfl (by kernel_rfl) (by kernel_rfl) (by kernel_rfl) (fun _ _ _ h => h) (by rfl) rfl ?_
                  simp only [Act.put, List.setIfInBounds_toArray, List.set_cons_zero, List.set_cons_succ]
                  refine wpG_pass preGr (i := 7) (by kernel_rfl) (some 115) (by kernel_rfl) rfl (by kernel_rfl) (by kernel_rfl) (by kernel_rfl) (fun _ _ _ h => h) (by rfl) rfl ?_
                  simp only [Act.put, List.setIfInBounds_toArray, List.set_cons_zero, List.set_cons_succ]
                  refine wpG_pass preGr (i := 8) (by kernel_rfl) (some 116) (by kernel_rfl) rfl (by kernel_rfl) (by kernel_rfl) (by kernel_rfl) (fun _ _ _ h => h) (by rfl) rfl ?_
                  simp only [Act.put, List.setIfInBounds_toArray, List.set_cons_zero, List.set_cons_succ]
                  refine wpG_pass preGr (i := 9) (by kernel_rfl) (some 117) (by kernel_rfl) rfl (by kernel_rfl) (by kernel_rfl) (by kernel_rfl) (fun _ _ _ h => h) (by rfl) rfl ?_
                  simp only [Act.put, List.setIfInBounds_toArray, List.set_cons_zero, List.set_cons_succ]
                  refine wpG_pass preGr (i := 10) (by kernel_rfl) (some 118) (by kernel_rfl) rfl (by kernel_rfl) (by kernel_rfl) (by kernel_rfl) (fun _ _ _ h => h) (by rfl) rfl ?_
                  simp only [Act.put, List.setIfInBounds_toArray, List.set_cons_zero, List.set_cons_succ]
                  refine wpG_pass preGr (i := 11) (by kernel_rfl) (some 119) (by kernel_rfl) rfl (by kernel_rfl) (by kernel_rfl) (by kernel_rfl) (fun _ _ _ h => h) (by rfl) rfl ?_
                  simp only [Act.put, List.setIfInBounds_toArray, List.set_cons_zero, List.set_cons_succ]
                  refine wpG_pass preGr (i := 12) (by kernel_rfl) (some 120) (by kernel_rfl) rfl (by kernel_rfl) (by kernel_rfl) (by kernel_rfl) (fun _ _ _ h => h) (by rfl) rfl ?_
                  simp only [Act.put, List.setIfInBounds_toArray, List.set_cons_zero, List.set_cons_succ]
                  -- 13: slot 121
                  refine wpG_take preGr (i := 13) (v := ?_) (by kernel_rfl) (some 121) (by kernel_rfl) rfl (by kernel_rfl) (by kernel_rfl) (by kernel_rfl) (fun _ _ _ h => h) (by rfl) (fun w' hw' => ?_) rfl ?_
                  rotate_left
                  · go_simp
                    with_reducible rfl
                  simp only [Act.put, List.setIfInBounds_toArray, List.set_cons_zero, List.set_cons_succ]
                  -- 14: slot 15
                  refine wpG_take preGr (i := 14) (v := ?_) (by kernel_rfl) (some 15) (by kernel_rfl) rfl (by kernel_rfl) (by kernel_rfl) (by kernel_rfl) (fun _ _ _ h => h) (by rfl) (fun w' hw' => ?_) rfl ?_
                  rotate_left
                  · go_simp
                    with_reducible rfl
                  simp only [Act.put, List.setIfInBounds_toArray, List.set_cons_zero, List.set_cons_succ]
                  refine wpG_done (by kernel_rfl) ?_ _
                  go_wp2
                  go_roundw
                  case rel =>
                    have HX := HFS.out
                    first | exact ⟨j + 1, true, by omega, by go_num, rfl, HX, HB.out.drew⟩ | ((repeat apply Exists.intro); exact ⟨⟨j + 1, true, by omega, by go_num, rfl, HX, HB.out.drew⟩, rfl⟩)
                  case measure => simp [intOf]; omega
                | false =>
                  have HFS : Hid ((T == r.typ) = thereTo r (plain ts) (j + 1)) := by show _ = _; rw [HST.out, Bool.false_or, Bool.beq_eq_decide_eq]
                  go_upto_region 24 with fail
                  refine wp_region_G 15 Gr (by kernel_rfl) ?_
                  -- 0: slot 108
                  refine wpG_take preGr (i := 0) (v := ?_) (by kernel_rfl) (some 108) (by kernel_rfl) rfl (by kernel_rfl) (by kernel_rfl) (by kernel_rfl) (fun _ _ _ h => h) (by rfl) (fun w' hw' => ?_) rfl ?_
                  rotate_left
                  · try have g0 := cellB' (HB.out.drew.trans (hw'.mono HB.out.size)) hbl HC0.out
                    try have g2 := cellB' (HB.out.drew.trans (hw'.mono HB.out.size)) hrbl HRC.out.1
                    go_simp
                    with_reducible rfl
                  simp only [Act.put, List.setIfInBounds_toArray, List.set_cons_zero, List.set_cons_succ]
                  -- 1: slot 109
                  refine wpG_take preGr (i := 1) (v := ?_) (by kernel_rfl) (some 109) (by kernel_rfl) rfl (by kernel_rfl) (by kernel_rfl) (by kernel_rfl) (fun _ _ _ h => h) (by rfl) (fun w' hw' => ?_) rfl ?_
                  rotate_left
                  · try have g0 := cellB' (HB.out.drew.trans (hw'.mono HB.out.size)) hbl HC0.out
                    try have g2 := cellB' (HB.out.drew.trans (hw'.mono HB.out.size)) hrbl HRC.out.1
                    go_simp
                    with_reducible rfl
                  simp only [Act.put, List.setIfInBounds_toArray, List.set_cons_zero, List.set_cons_succ]
                  -- 2: slot 110
                  refine wpG_take preGr (i := 2) (v := ?_) (by kernel_rfl) (some 110) (by kernel_rfl) rfl (by kernel_rfl) (by kernel_rfl) (by kernel_rfl) (fun _ _ _ h => h) (by rfl) (fun w' hw' => ?_) rfl ?_
                  rotate_left
                  · try have g0 := cellB' (HB.out.drew.trans (hw'.mono HB.out.size)) hbl HC0.out
                    try have g2 := cellB' (HB.out.drew.trans (hw'.mono HB.out.size)) hrbl HRC.out.1
                    go_simp
                    with_reducible rfl
                  simp only [Act.put, List.setIfInBounds_toArray, List.set_cons_zero, List.set_cons_succ]
                  -- 3: slot 111
                  refine wpG_take preGr (i := 3) (v := ?_) (by kernel_rfl) (some 111) (by kernel_rfl) rfl (by kernel_rfl) (by kernel_rfl) (by kernel_rfl) (fun _ _ _ h => h) (by rfl) (fun w' hw' => ?_) rfl ?_
                  rotate_left
                  · try have g0 := cellB' (HB.out.drew.trans (hw'.mono HB.out.size)) hbl HC0.out
                    try have g2 := cellB' (HB.out.drew.trans (hw'.mono HB.out.size)) hrbl HRC.out.1
                    go_simp
                    with_reducible rfl
                  simp only [Act.put, List.setIfInBounds_toArray, List.set_cons_zero, List.set_cons_succ]
                  -- 4: slot 112
                  refine wpG_take preGr (i := 4) (v := ?_) (by kernel_rfl) (some 112) (by kernel_rfl) rfl (by kernel_rfl) (by kernel_rfl) (by kernel_rfl) (fun _ _ _ h => h) (by rfl) (fun w' hw' => ?_) rfl ?_
                  rotate_left
                  · try have g0 := cellB' (HB.out.drew.trans (hw'.mono HB.out.size)) hbl HC0.out
                    try have g2 := cellB' (HB.out.drew.trans (hw'.mono HB.out.size)) hrbl HRC.out.1
                    go_simp
                    with_reducible rfl
                  simp only [Act.put, List.setIfInBounds_toArray, List.set_cons_zero, List.set_cons_succ]
                  -- 5: slot 113
                  refine wpG_take preGr (i := 5) (v := ?_) (by kernel_rfl) (some 113) (by kernel_rfl) rfl (by kernel_rfl) (by kernel_rfl) (by kernel_rfl) (fun _ _ _ h => h) (by rfl) (fun w' hw' => ?_) rfl ?_
                  rotate_left
                  · try have g0 := cellB' (HB.out.drew.trans (hw'.mono HB.out.size)) hbl HC0.out
                    try have g2 := cellB' (HB.out.drew.trans (hw'.mono HB.out.size)) hrbl HRC.out.1
                    go_simp
                    with_reducible rfl
                  simp only [Act.put, List.setIfInBounds_toArray, List.set_cons_zero, List.set_cons_succ]
                  -- 6: slot 114
                  refine wpG_take preGr (i := 6) (v := ?_) (by kernel_rfl) (some 114) (by kernel_rfl) rfl (by kernel_rfl) (by kernel_rfl) (by kernel_rfl) (fun _ _ _ h => h) (by rfl) (fun w' hw' => ?_) rfl ?_
                  rotate_left
                  · try have g0 := cellB' (HB.out.drew.trans (hw'.mono HB.out.size)) hbl HC0.out
                    try have g2 := cellB' (HB.out.drew.trans (hw'.mono HB.out.size)) hrbl HRC.out.1
                    go_simp
                    with_reducible rfl
                  simp only [Act.put, List.setIfInBounds_toArray, List.set_cons_zero, List.set_cons_succ]
                  -- 7: slot 115
                  refine wpG_take preGr (i := 7) (v := ?_) (by kernel_rfl) (some 115) (by kernel_rfl) rfl (by kernel_rfl) (by kernel_rfl) (by kernel_rfl) (fun _ _ _ h => h) (by rfl) (fun w' hw' => ?_) rfl ?_
                  rotate_left
                  · try have g0 := cellB' (HB.out.drew.trans (hw'.mono HB.out.size)) hbl HC0.out
                    try have g2 := cellB' (HB.out.drew.trans (hw'.mono HB.out.size)) hrbl HRC.out.1
                    go_simp
                    with_reducible rfl
                  simp only [Act.put, List.setIfInBounds_toArray, List.set_cons_zero, List.set_cons_succ]
                  -- 8: slot 116
                  refine wpG_take preGr (i := 8) (v := ?_) (by kernel_rfl) (some 116) (by kernel_rfl) rfl (by kernel_rfl) (by kernel_rfl) (by kernel_rfl) (fun _ _ _ h => h) (by rfl) (fun w' hw' => ?_) rfl ?_
                  rotate_left
                  · try have g0 := cellB' (HB.out.drew.trans (hw'.mono HB.out.size)) hbl HC0.out
                    try have g2 := cellB' (HB.out.drew.trans (hw'.mono HB.out.size)) hrbl HRC.out.1
                    go_simp
                    with_reducible rfl
                  simp only [Act.put, List.setIfInBounds_toArray, List.set_cons_zero, List.set_cons_succ]
                  -- 9: slot 117
                  refine wpG_take preGr (i := 9) (v := ?_) (by kernel_rfl) (some 117) (by kernel_rfl) rfl (by kernel_rfl) (by kernel_rfl) (by kernel_rfl) (fun _ _ _ h => h) (by rfl) (fun w' hw' => ?_) rfl ?_
                  rotate_left
                  · try have g0 := cellB' (HB.out.drew.trans (hw'.mono HB.out.size)) hbl HC0.out
                    try have g2 := cellB' (HB.out.drew.trans (hw'.mono HB.out.size)) hrbl HRC.out.1
                    go_simp
                    with_reducible rfl
                  simp only [Act.put, List.setIfInBounds_toArray, List.set_cons_zero, List.set_cons_succ]
                  -- 10: slot 118
                  refine wpG_take preGr (i := 10) (v := ?_) (by kernel_rfl) (some 118) (by kernel_rfl) rfl (by kernel_rfl) (by kernel_rfl) (by kernel_rfl) (fun _ _ _ h => h) (by rfl) (fun w' hw' => ?_) rfl ?_
                  rotate_left
                  · try have g0 := cellB' (HB.out.drew.trans (hw'.mono HB.out.size)) hbl HC0.out
                    try have g2 := cellB' (HB.out.drew.trans (hw'.mono HB.out.size)) hrbl HRC.out.1
                    go_simp
                    with_reducible rfl
                  simp only [Act.put, List.setIfInBounds_toArray, List.set_cons_zero, List.set_cons_succ]
                  -- 11: slot 119
                  refine wpG_take preGr (i := 11) (v := ?_) (by kernel_rfl) (some 119) (by kernel_rfl) rfl (by kernel_rfl) (by kernel_rfl) (by kernel_rfl) (fun _ _ _ h => h) (by rfl) (fun w' hw' => ?_) rfl ?_
                  rotate_left
                  · try have g0 := cellB' (HB.out.drew.trans (hw'.mono HB.out.size)) hbl HC0.out
                    try have g2 := cellB' (HB.out.drew.trans (hw'.mono HB.out.size)) hrbl HRC.out.1
                    go_simp
                    with_reducible rfl
                  simp only [Act.put, List.setIfInBounds_toArray, List.set_cons_zero, List.set_cons_succ]
                  -- 12: slot 120
                  refine wpG_take preGr (i := 12) (v := ?_) (by kernel_rfl) (some 120) (by kernel_rfl) rfl (by kernel_rfl) (by kernel_rfl) (by kernel_rfl) (fun _ _ _ h => h) (by rfl) (fun w' hw' => ?_) rfl ?_
                  rotate_left
                  · try have g0 := cellB' (HB.out.drew.trans (hw'.mono HB.out.size)) hbl HC0.out
                    try have g2 := cellB' (HB.out.drew.trans (hw'.mono HB.out.size)) hrbl HRC.out.1
                    go_simp
                    with_reducible rfl
                  simp only [Act.put, List.setIfInBounds_toArray, List.set_cons_zero, List.set_cons_succ]
                  -- 13: slot 121
                  refine wpG_take preGr (i := 13) (v := ?_) (by kernel_rfl) (some 121) (by kernel_rfl) rfl (by kernel_rfl) (by kernel_rfl) (by kernel_rfl) (fun _ _ _ h => h) (by rfl) (fun w' hw' => ?_) rfl ?_
                  rotate_left
                  · try have g0 := cellB' (HB.out.drew.trans (hw'.mono HB.out.size)) hbl HC0.out
                    try have g2 := cellB' (HB.out.drew.trans (hw'.mono HB.out.size)) hrbl HRC.out.1
                    go_simp
                    with_reducible rfl
                  simp only [Act.put, List.setIfInBounds_toArray, List.set_cons_zero, List.set_cons_succ]
                  -- 14: slot 15
                  refine wpG_take preGr (i := 14) (v := ?_) (by kernel_rfl) (some 15) (by kernel_rfl) rfl (by kernel_rfl) (by kernel_rfl) (by kernel_rfl) (fun _ _ _ h => h) (by rfl) (fun w' hw' => ?_) rfl ?_
                  rotate_left
                  · try have g0 := cellB' (HB.out.drew.trans (hw'.mono HB.out.size)) hbl HC0.out
                    try have g2 := cellB' (HB.out.drew.trans (hw'.mono HB.out.size)) hrbl HRC.out.1
                    go_simp
                    with_reducible rfl
                  simp only [Act.put, List.setIfInBounds_toArray, List.set_cons_zero, List.set_cons_succ]
                  refine wpG_done (by kernel_rfl) ?_ _
                  go_wp2
                  go_roundw
                  case rel =>
                    have HX := HFS.out
                    first | exact ⟨j + 1, (T == r.typ), by omega, by go_num, rfl, HX, HB.out.drew⟩ | ((repeat apply Exists.intro); exact ⟨⟨j + 1, (T == r.typ), by omega, by go_num, rfl, HX, HB.out.drew⟩, rfl⟩)
                  case measure => simp [intOf]; omega
              · obtain rfl : j = i := by omega
                obtain rfl : q = true := by
                  have h := HTH.out
                  rw [plain_length, htl] at h
                  rw [HQ.out]; exact h
                go_wp2
                go_roundw
                case rel =>
                  first | exact ⟨k + 1, by omega, by go_num, HB.out⟩ | ((repeat apply Exists.intro); exact ⟨⟨k + 1, by omega, by go_num, HB.out⟩, rfl⟩)
                case measure => simp [intOf]; omega
          · obtain rfl : k = m := by omega
            go_wp2_with fail
            refine (AW.out wr).mono ?_
            rintro e w7 ⟨rfl, hb7⟩
            have HB7 := Lib.hid (HB4.out.trans (Below.mono (HB1.out.trans (hb7.mono HB1.out.size)) HB4.out.size))
            clear hb7
            go_wp2
            go_ret
            exact ⟨rfl, HB7.out⟩
  · have hK : (K != 2) = true := by simpa using h2
    clear h2
    go_wp2_with fail
    refine (AW.out w3).mono ?_
    rintro e w7 ⟨rfl, hb7⟩
    have HB7 := Lib.hid (HB3.out.trans (hb7.mono HB3.out.size))
    clear hb7
    go_wp2
    go_ret
    exact ⟨rfl, HB7.out⟩

theorem own : ownKnob Try.prog.godebug = none := by kernel_rfl
theorem laidOut : laidOutB Try.prog = true := by kernel_rfl
set_option maxRecDepth 100000 in
theorem lifted (os : Os) (started : os.Started) (H : Type) (enc : TypeId × Value → H) :
    ReturnsInHanded {} Try.checked os 5 .any (Rows.negoTakenSpec.pre6 enc Try.prog Try.f5 Rows.negoTakenRow.domain false) (Rows.negoTakenSpec.post enc Try.prog Try.f5 false true false false) := by
  refine returnsInHanded_of_change (C := Try.checked) own started (by kernel_rfl) Try.func5
    (ChangeSpec.witness6 (enc := enc) (C := Try.checked) false ⟨#[], #[.slice none 0 0, .slice none 0 0, .int .i64 0, .int .i64 0], []⟩ 8 (by kernel_rfl) (by kernel_rfl) (by kernel_rfl) (by kernel_rfl)) ?_
  intro W base args ds gs before hval0 hW hcnd _
  have hval : ∀ (j : Nat) t v, Try.f5.params[j]? = some t → args[j]? = some v → Value.okWide Try.prog W .any base t v := hval0
  have hW' := hW
  obtain ⟨p, q, hA0, hV, rfl, hfz, hnd⟩ := hW
  have hA : DataW.TrodAll enc Try.prog W 0 (fun _ => true) true Try.f5.params.toList args.toList ds p := hA0
  rw [Try.params5] at hA hval
  obtain ⟨v0, vs0, d0, ds0, p0, q0, hargs, rfl, rfl, h0, r0⟩ := trodAll_cons hA
  obtain ⟨v1, vs1, d1, ds1, p1, q1, rfl, rfl, rfl, h1, r1⟩ := trodAll_cons r0
  obtain ⟨v2, vs2, d2, ds2, p2, q2, rfl, rfl, rfl, h2, r2⟩ := trodAll_cons r1
  obtain ⟨v3, vs3, d3, ds3, p3, q3, rfl, rfl, rfl, h3, r3⟩ := trodAll_cons r2
  obtain ⟨rfl, rfl, rfl⟩ := trodAll_nil r3
  obtain rfl : args = #[v0, v1, v2, v3] := by cases args; simp_all
  obtain ⟨rfl, rfl⟩ := trodVars_none hV
  have k0 := h0
  have lt0 : ∀ x ∈ p0, x.block < W.heap.size := by obtain ⟨m, hm⟩ := k0; exact DataW.trod_lt m _ _ _ hm
  obtain ⟨a0, n0, c0, rs0, rfl, b0⟩ := Ng.open_rules Try.underlying22 Try.underlying39 ⟨rfl, rfl, rfl, rfl, rfl, rfl, rfl⟩ Try.underlying3 Try.underlying3 Try.underlying37 Try.underlying3 Try.underlying3 Try.underlying3 Try.underlying4 ⟨by kernel_rfl, by kernel_rfl, by kernel_rfl, by kernel_rfl, by kernel_rfl, by kernel_rfl, by kernel_rfl, by kernel_rfl⟩ (hval 0 22 v0 rfl rfl) h0
  have k1 := h1
  have lt1 : ∀ x ∈ p1, x.block < W.heap.size := by obtain ⟨m, hm⟩ := k1; exact DataW.trod_lt m _ _ _ hm
  obtain ⟨a1, n1, c1, ts1, rfl, b1, i1⟩ := Ng.open_optw Try.underlying23 Try.underlying42 ⟨rfl, rfl⟩ Try.underlying3 Try.underlying40 Try.underlying5 ⟨by kernel_rfl, by kernel_rfl, by kernel_rfl, by kernel_rfl⟩ (hval 1 23 v1 rfl rfl) h1
  have k2 := h2
  have lt2 : ∀ x ∈ p2, x.block < W.heap.size := by obtain ⟨m, hm⟩ := k2; exact DataW.trod_lt m _ _ _ hm
  obtain ⟨a2, rfl, rfl, rfl, w2⟩ := open_int Try.underlying3 (hval 2 3 v2 rfl rfl) h2
  have k3 := h3
  have lt3 : ∀ x ∈ p3, x.block < W.heap.size := by obtain ⟨m, hm⟩ := k3; exact DataW.trod_lt m _ _ _ hm
  obtain ⟨a3, rfl, rfl, rfl, w3⟩ := open_int Try.underlying3 (hval 3 3 v3 rfl rfl) h3
  clear hA0 hval0
  refine (walk W a0 n0 c0 rs0 b0 a1 n1 c1 ts1 b1 i1 a2 w2 a3 w3).mono fun e W' ⟨he, bel⟩ => ?_
  subst he
  exact ⟨_, rfl, _, _, _, [], _, [], hW', trodAll_mk1 (shut_bool Try.underlying4 _), (trodAll_cons_mk (Below.trod laidOut (by kernel_rfl) (of_decide_eq_true (by kernel_rfl)) k0 bel lt0) (trodAll_cons_mk (Below.trod laidOut (by kernel_rfl) (of_decide_eq_true (by kernel_rfl)) k1 bel lt1) (trodAll_cons_mk (Below.trod laidOut (by kernel_rfl) (of_decide_eq_true (by kernel_rfl)) k2 bel lt2) (trodAll_cons_mk (Below.trod laidOut (by kernel_rfl) (of_decide_eq_true (by kernel_rfl)) k3 bel lt3) trodAll_mk0)))), rfl, bel.frame _, fun h => by cases h⟩
theorem over : Rows.negoTakenRow.holds Try.pinned (OpenSpec.ofChange Rows.negoTakenSpec) :=
  OpenClaim.holds_of_wide 5 Try.f5 rfl rfl rfl rfl rfl rfl rfl ⟨rfl, rfl, rfl, rfl, rfl⟩ rfl rfl rfl rfl rfl (by kernel_rfl) Try.func5 (by kernel_rfl)
    (of_decide_eq_true (by kernel_rfl)) (by unfold Func.isWrapper; first | (rw [if_pos (by decide +kernel)]; kernel_rfl) | (rw [if_neg (by decide +kernel)]; exact ⟨rfl, rfl⟩))
    (fun os started H enc _ => lifted os started H enc)
/-- The statement. -/
theorem proved : Rows.NegoTakenSaid := over
end Go.Proofs.Ytbldcjngccmhpaa.negoTaken
