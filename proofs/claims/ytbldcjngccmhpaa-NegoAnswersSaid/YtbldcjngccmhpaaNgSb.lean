/-
  The document's Answer, whatever comes.
-/
import Derived.Test.YtbldcjngccmhpaaNgS
namespace Go.Proofs.Ytbldcjngccmhpaa.Ng
open Go.RowKit O
set_option linter.unusedVariables false
set_option linter.unusedSimpArgs false

/-- What the document's Answer tells: a code, and options that are read. -/
def RRes (x : Int × List PT) (w : World) (e : Ending) (w' : World) : Prop := ∃ a m c us, e = .returned (.tuple #[.int .i64 x.1, .slice a m c]) ∧ plain us = x.2 ∧ TR w' (.slice a m c) m us ∧ Below w.heap.size w w'
theorem RRes.of {x : Int × List PT} {w w' : World} (k : Int) (l : List PT) (a : Option Addr) (m c : Nat) (us : List Tg) (h : x = (k, l)) (h1 : plain us = l) (h2 : TR w' (.slice a m c) m us) (h3 : Below w.heap.size w w') : RRes x w (.returned (.tuple #[.int .i64 k, .slice a m c])) w' := by
  subst h
  exact ⟨a, m, c, us, rfl, h1, h2, h3⟩

set_option maxRecDepth 20000 in
set_option maxHeartbeats 8000000 in
theorem ranswer_any (ra : Option Addr) (rn rc : Nat) (rs : List Ru) (ao : Option Addr) (n c : Nat) (ts : List Tg) (naks most : Int) (w : World) (hrr : RR w (.slice ra rn rc) rn rs) (hr : TR w (.slice ao n c) n ts) (hn : n ≤ 1000) :
    Calls Try.prog 12 #[.slice ra rn rc, .slice ao n c, .int .i64 naks, .int .i64 most] w (RRes (ans rs (plain ts) naks most) w) := by
  obtain ⟨i0, hi, hz0, hz1, hz2⟩ := info_parts infoT
  have hl := hr.len
  have hlr := hrr.len
  have hpl : (plain ts).length = n := by rw [plain_length]; exact hl
  have HRR := Lib.hid hrr
  have HR := Lib.hid hr
  have AR := Lib.hid (are_any ra rn rc rs w hrr)
  have hcc : n ≤ c ∧ c ≤ maxLen := by
    obtain ⟨_, _, es, h1, h2⟩ := hr.shape
    simp only [Value.slice.injEq] at es
    obtain ⟨_, _, rfl⟩ := es
    exact ⟨h1, h2⟩
  obtain ⟨hc1, hc2⟩ := hcc
  unfold maxLen at hc2
  clear hrr hr
  by_cases ha : areR rs
  · rw [decide_eq_true ha] at AR
    have HA := Lib.hid ha
    have hrn : rn ≤ 16 := by rw [← hlr]; exact ha.1
    clear ha
    go_enter Try.func12, Try.ntmps12
    go_wp2_with fail
    refine AR.out.mono ?_
    rintro e w1 ⟨rfl, hb1⟩
    have HD0 : Hid (D3 w [] [] [] (.slice none 0 0) (.slice none 0 0) (.slice none 0 0) w1) := (D3.zero w).gr hb1
    clear hb1 AR
    go_wp2
    go_loopw [10, 11, 12, 13] (fun s10 s11 s12 iv wr => ∃ (i : Nat) (rv bv nv : Value), i ≤ n ∧ iv = .int .i64 (i : Int) ∧ rv = s10 ∧ bv = s11 ∧ nv = s12 ∧ D3 w (rejs rs [] ((plain ts).take i)) ((bads rs [] ((plain ts).take i)).map (·.1)) ((bads rs [] ((plain ts).take i)).map (·.2)) rv bv nv wr) (fun _ _ _ iv _ => n - (intOf iv).toNat)
    case atStart => exact ⟨0, _, _, _, Nat.zero_le _, rfl, rfl, rfl, rfl, HD0.out⟩
    case round =>
      clear HD0
      obtain ⟨i, rv, bv, nv, hin, rfl, rfl, rfl, rfl, hd⟩ := hrel
      have HD := Lib.hid hd
      have HB := Lib.hid hd.low
      clear hd
      by_cases hlt : i < n
      · obtain ⟨b, o, rfl, hbl, hc⟩ := HR.out.cells (by omega)
        obtain ⟨hc0, hc1'⟩ := hc i (by omega)
        have HV := Lib.hid (HR.out.val i (by omega))
        obtain ⟨A, L, C, hv, hL, hLC, hCm⟩ := HV.out.sl
        rw [hv] at hc1'
        obtain ⟨T, hT⟩ : ∃ T, T = ts[i].typ := ⟨_, rfl⟩
        rw [← hT] at hc0
        obtain ⟨l, hlq⟩ : ∃ l, l = ts[i].l := ⟨_, rfl⟩
        have HBS : Hid (Bs w (.slice A L C) l) := by show Bs _ _ _; rw [hlq, ← hv]; exact HV.out
        have hll : l.length = L := by rw [hlq]; exact hL
        have HLL := Lib.hid hll
        have HTK : Hid ((plain ts).take (i + 1) = (plain ts).take i ++ [(T, l)]) := by
          show _ = _
          rw [List.take_succ_eq_append_getElem (by rw [plain_length]; omega), plain_get _ _ (by omega), hT, hlq]
        have HC0 := Lib.hid hc0
        have HC1 := Lib.hid hc1'
        have hin2 : (i : Int) < (n : Int) := by omega
        have k0 := cellB' HB.out hbl hc0
        have k1 := cellB' HB.out hbl hc1'
        have RU := Lib.hid (rule_any ra rn rc rs T A L C l hll wr (HRR.out.below HB.out))
        clear hv hL hT hc hc0 hc1' hlq hll
        go_wp2_with fail
        refine RU.out.mono ?_
        rintro e w2 ⟨(⟨k, hk, r, rfl, hrk, hro⟩ | ⟨rfl, hro⟩), hb2⟩
        · have HB2 := Lib.hid (HB.out.trans (hb2.mono HB.out.size))
          have HD2 := Lib.hid (HD.out.gr hb2)
          have HRO := Lib.hid hro
          have HRK := Lib.hid hrk
          have hk0 : ¬ (k : Int) < 0 := by omega
          have hk0d : decide ((k : Int) < 0) = false := decide_eq_false hk0
          have hkr : k < rn := by omega
          have hkr2 : (k : Int) < (rn : Int) := by omega
          obtain ⟨a', hsl, htu⟩ := TR.upto HR.out i (by omega)
          have HSL := Lib.hid hsl
          have HTU := Lib.hid htu
          obtain ⟨q, hq⟩ : ∃ q, q = hasT ((plain ts).take i) T := ⟨_, rfl⟩
          have HA2 := Lib.hid (fun (w' : World) (hw : Below w.heap.size w w') => has_any a' i c (ts.take i) T w' (htu.below hw) (by omega))
          rw [plain_take, ← hq] at HA2
          have HQ := Lib.hid hq
          clear hb2 k0 k1 RU hro hrk hsl htu hq
          go_upto_region 8 with fail
          refine wp_region_G 13 Gr (by kernel_rfl) ?_
          -- 0: slot 31
          refine wpG_take preGr (i := 0) (v := ?_) (by kernel_rfl) (some 31) (by kernel_rfl) rfl (by kernel_rfl) (by kernel_rfl) (by kernel_rfl) (fun _ _ _ h => h) (by rfl) (fun w' hw' => ?_) rfl ?_
          rotate_left
          · try have g0 := cellB' (HB2.out.drew.trans (hw'.mono HB2.out.size)) hbl HC0.out
            try have g1 := HSL.out
            go_simp
            with_reducible rfl
          simp only [Act.put, List.setIfInBounds_toArray, List.set_cons_zero, List.set_cons_succ]
          -- 1: slot 32
          refine wpG_take preGr (i := 1) (v := ?_) (by kernel_rfl) (some 32) (by kernel_rfl) rfl (by kernel_rfl) (by kernel_rfl) (by kernel_rfl) (fun _ _ _ h => h) (by rfl) (fun w' hw' => ?_) rfl ?_
          rotate_left
          · try have g0 := cellB' (HB2.out.drew.trans (hw'.mono HB2.out.size)) hbl HC0.out
            try have g1 := HSL.out
            go_simp
            with_reducible rfl
          simp only [Act.put, List.setIfInBounds_toArray, List.set_cons_zero, List.set_cons_succ]
          -- 2: slot 33
          refine wpG_take preGr (i := 2) (v := ?_) (by kernel_rfl) (some 33) (by kernel_rfl) rfl (by kernel_rfl) (by kernel_rfl) (by kernel_rfl) (fun _ _ _ h => h) (by rfl) (fun w' hw' => ?_) rfl ?_
          rotate_left
          · try have g0 := cellB' (HB2.out.drew.trans (hw'.mono HB2.out.size)) hbl HC0.out
            try have g1 := HSL.out
            go_simp
            with_reducible rfl
          simp only [Act.put, List.setIfInBounds_toArray, List.set_cons_zero, List.set_cons_succ]
          -- 3: slot 34
          refine wpG_take preGr (i := 3) (v := ?_) (by kernel_rfl) (some 34) (by kernel_rfl) rfl (by kernel_rfl) (by kernel_rfl) (by kernel_rfl) (fun _ _ _ h => h) (by rfl) (fun w' hw' => ?_) rfl ?_
          rotate_left
          · try have g0 := cellB' (HB2.out.drew.trans (hw'.mono HB2.out.size)) hbl HC0.out
            try have g1 := HSL.out
            go_simp
            with_reducible rfl
          simp only [Act.put, List.setIfInBounds_toArray, List.set_cons_zero, List.set_cons_succ]
          -- 4: slot 35
          refine wpG_take preGr (i := 4) (v := ?_) (by kernel_rfl) (some 35) (by kernel_rfl) rfl (by kernel_rfl) (by kernel_rfl) (by kernel_rfl) (fun _ _ _ h => h) (by rfl) (fun w' hw' => ?_) rfl ?_
          rotate_left
          · try have g0 := cellB' (HB2.out.drew.trans (hw'.mono HB2.out.size)) hbl HC0.out
            try have g1 := HSL.out
            go_simp
            with_reducible rfl
          simp only [Act.put, List.setIfInBounds_toArray, List.set_cons_zero, List.set_cons_succ]
          -- 5: slot 36
          refine wpG_take preGr (i := 5) (v := ?_) (by kernel_rfl) (some 36) (by kernel_rfl) rfl (by kernel_rfl) (by kernel_rfl) (by kernel_rfl) (fun _ _ _ h => h) (by rfl) (fun w' hw' => ?_) rfl ?_
          rotate_left
          · try have g0 := cellB' (HB2.out.drew.trans (hw'.mono HB2.out.size)) hbl HC0.out
            try have g1 := HSL.out
            go_simp
            with_reducible rfl
          simp only [Act.put, List.setIfInBounds_toArray, List.set_cons_zero, List.set_cons_succ]
          -- 6: slot 37
          refine wpG_take preGr (i := 6) (v := ?_) (by kernel_rfl) (some 37) (by kernel_rfl) rfl (by kernel_rfl) (by kernel_rfl) (by kernel_rfl) (fun _ _ _ h => h) (by rfl) (fun w' hw' => ?_) rfl ?_
          rotate_left
          · try have g0 := cellB' (HB2.out.drew.trans (hw'.mono HB2.out.size)) hbl HC0.out
            try have g1 := HSL.out
            go_simp
            with_reducible rfl
          simp only [Act.put, List.setIfInBounds_toArray, List.set_cons_zero, List.set_cons_succ]
          -- 7: slot 38
          refine wpG_take preGr (i := 7) (v := ?_) (by kernel_rfl) (some 38) (by kernel_rfl) rfl (by kernel_rfl) (by kernel_rfl) (by kernel_rfl) (fun _ _ _ h => h) (by rfl) (fun w' hw' => ?_) rfl ?_
          rotate_left
          · try have g0 := cellB' (HB2.out.drew.trans (hw'.mono HB2.out.size)) hbl HC0.out
            try have g1 := HSL.out
            go_simp
            with_reducible rfl
          simp only [Act.put, List.setIfInBounds_toArray, List.set_cons_zero, List.set_cons_succ]
          -- 8: slot 39
          refine wpG_take preGr (i := 8) (v := ?_) (by kernel_rfl) (some 39) (by kernel_rfl) rfl (by kernel_rfl) (by kernel_rfl) (by kernel_rfl) (fun _ _ _ h => h) (by rfl) (fun w' hw' => ?_) rfl ?_
          rotate_left
          · try have g0 := cellB' (HB2.out.drew.trans (hw'.mono HB2.out.size)) hbl HC0.out
            try have g1 := HSL.out
            go_simp
            with_reducible rfl
          simp only [Act.put, List.setIfInBounds_toArray, List.set_cons_zero, List.set_cons_succ]
          -- 9: slot 40
          refine wpG_take preGr (i := 9) (v := ?_) (by kernel_rfl) (some 40) (by kernel_rfl) rfl (by kernel_rfl) (by kernel_rfl) (by kernel_rfl) (fun _ _ _ h => h) (by rfl) (fun w' hw' => ?_) rfl ?_
          rotate_left
          · try have g0 := cellB' (HB2.out.drew.trans (hw'.mono HB2.out.size)) hbl HC0.out
            try have g1 := HSL.out
            go_simp
            with_reducible rfl
          simp only [Act.put, List.setIfInBounds_toArray, List.set_cons_zero, List.set_cons_succ]
          -- 10: slot 41
          refine wpG_take preGr (i := 10) (v := ?_) (by kernel_rfl) (some 41) (by kernel_rfl) rfl (by kernel_rfl) (by kernel_rfl) (by kernel_rfl) (fun _ _ _ h => h) (by rfl) (fun w' hw' => ?_) rfl ?_
          rotate_left
          · try have g0 := cellB' (HB2.out.drew.trans (hw'.mono HB2.out.size)) hbl HC0.out
            try have g1 := HSL.out
            go_simp
            with_reducible rfl
          simp only [Act.put, List.setIfInBounds_toArray, List.set_cons_zero, List.set_cons_succ]
          refine wpG_one (i := 11) rfl (by kernel_rfl) (by rfl) ?_
          go_simp
          refine (HA2.out _ HB2.out.drew).mono ?_
          rintro e w3 ⟨rfl, rfl⟩
          refine ⟨Gr.refl _, ?_⟩
          try simp only [Act.put, List.setIfInBounds_toArray, List.set_cons_zero, List.set_cons_succ]
          -- 12: slot 43
          refine wpG_take preGr (i := 12) (v := ?_) (by kernel_rfl) (some 43) (by kernel_rfl) rfl (by kernel_rfl) (by kernel_rfl) (by kernel_rfl) (fun _ _ _ h => h) (by rfl) (fun w' hw' => ?_) rfl ?_
          rotate_left
          · try have g0 := cellB' (HB2.out.drew.trans (hw'.mono HB2.out.size)) hbl HC0.out
            try have g1 := HSL.out
            go_simp
            with_reducible rfl
          simp only [Act.put, List.setIfInBounds_toArray, List.set_cons_zero, List.set_cons_succ]
          refine wpG_done (by kernel_rfl) ?_ _
          have HB3 : Hid (Below w.heap.size w w2.drew) := HB2.out.drew
          have HD3 : Hid (D3 w (rejs rs [] ((plain ts).take i)) ((bads rs [] ((plain ts).take i)).map (·.1)) ((bads rs [] ((plain ts).take i)).map (·.2)) rv bv nv w2.drew) := HD2.out.gr (Gr.drew w2)
          generalize w2.drew = w3 at HB3 HD3 ⊢
          clear HD2 HB2 HD HB
          cases q with
          | true =>
            have HNR : Hid (rejs rs [] ((plain ts).take (i + 1)) = rejs rs [] ((plain ts).take i) ++ [(T, l)]) := by
              show _ = _
              rw [HTK.out, rejs_snoc, List.nil_append, ← HQ.out, Bool.or_true, if_pos rfl]
            have HNB : Hid (bads rs [] ((plain ts).take (i + 1)) = bads rs [] ((plain ts).take i)) := by
              show _ = _
              rw [HTK.out, bads_snoc, List.nil_append, ← HQ.out]
              unfold badO
              rw [HRO.out]
              simp
            obtain ⟨RR, hR, hRl, hRo, hRv⟩ := HD3.out.r.own
            have HRP := Lib.hid hR
            have HRV := Lib.hid hRv
            have hal : Gr w3 (w3.alloc (.cells #[.int .i64 T, .slice A L C] 42)) := (Gr.refl _).alloc _
            have HD4 := Lib.hid (HD3.out.gr hal)
            obtain ⟨M, hM⟩ : ∃ M, M = (rejs rs [] ((plain ts).take i)).length := ⟨_, rfl⟩
            have hM1 : M ≤ 1000 := by rw [hM]; exact Nat.le_trans (rejs_len rs _ []) (by rw [List.length_take]; omega)
            rw [← hM] at hRo
            have HMM := Lib.hid hM
            have HRo4 := Lib.hid (ownsRow_below hRo hal)
            have HSZ4 : Hid (w.heap.size ≤ (w3.alloc (.cells #[.int .i64 T, .slice A L C] 42)).heap.size) := Nat.le_trans HB3.out.size hal.size
            have q0 := cellB' HB3.out hbl HC0.out
            have q1 := cellB' HB3.out hbl HC1.out
            clear hR hRl hRo hRv hal hM
            go_wp2_with (at_builtin; refine wpList_append_where _ rfl (.tmp 44) (.tmp 49) 23 rfl w.heap.size 42 i0 _ 2 32 Try.underlying23 hi hz0 hz1 hz2 rfl (by decide) rv M (flat RR) rfl HRo4.out ⟨w3.heap.size, 0, none⟩ 1 1 [.int .i64 T, .slice A L C] rfl rfl (cells_new w3 [.int .i64 T, .slice A L C] 42) (one_tag T rfl) ?p1 ?p2 HSZ4.out ?_)
            case p1 => unfold maxLen; omega
            case p2 => omega
            intro vR w5 ho5 hg5 hw5
            have HD5 := Lib.hid (D3.addR (t := ⟨T, .slice A L C, l⟩) HD4.out HRP.out HRV.out (by rw [← HMM.out]; exact HRo4.out) HBS.out (by rw [← HMM.out]; exact ho5) hg5 (fun k hk => by rw [World.size_alloc]; exact hw5 k hk))
            clear ho5 hg5 hw5 q0 q1 HD4 HRo4 HRP HRV
            go_wp2
            go_roundw
            case rel =>
              have HX : D3 w (rejs rs [] ((plain ts).take (i + 1))) ((bads rs [] ((plain ts).take (i + 1))).map (·.1)) ((bads rs [] ((plain ts).take (i + 1))).map (·.2)) vR bv nv w5 := by
                rw [HNR.out, HNB.out]
                exact HD5.out
              first | exact ⟨i + 1, _, _, _, by omega, by go_num, rfl, rfl, rfl, HX⟩ | ((repeat apply Exists.intro); exact ⟨⟨i + 1, _, _, _, by omega, by go_num, rfl, rfl, rfl, HX⟩, rfl⟩)
            case measure => simp [intOf]; omega
          | false =>
            have HNR : Hid (rejs rs [] ((plain ts).take (i + 1)) = rejs rs [] ((plain ts).take i)) := by
              show _ = _
              rw [HTK.out, rejs_snoc, List.nil_append, ← HQ.out, HRO.out]
              simp
            have HIS : Hid (isR r) := by show isR r; rw [HRK.out]; exact HA.out.2.1 _ (List.getElem_mem hk)
            have hrs := (ruleOf_some HRO.out).2.2
            have hL4 : L ≤ 4 := by
              have h1 := HIS.out.2.2.2.1
              rw [hrs] at h1
              have h2 : ((l.length : Nat) : Int) ≤ 4 := h1
              rw [HLL.out] at h2
              omega
            obtain ⟨rb, ro, rfl, hrbl, hrc⟩ := HRR.out.cells (by omega)
            have hrck := hrc k hk
            rw [← HRK.out] at hrck
            have HRC := Lib.hid hrck
            obtain ⟨tk, htk⟩ : ∃ t, t = takes r (num (T, l)) := ⟨_, rfl⟩
            have NU := Lib.hid (fun (w' : World) (hw : Below w.heap.size w w') => number_any T A L C l HLL.out hL4 w' (HBS.out.below hw))
            have TKS := Lib.hid (fun (w' : World) => rtakes_any r (num (T, l)) w')
            rw [← htk] at TKS
            have HNB : Hid (bads rs [] ((plain ts).take (i + 1)) = bads rs [] ((plain ts).take i) ++ (if tk then [] else [((T, l), goodO r)])) := by
              show _ = _
              rw [HTK.out, bads_snoc, List.nil_append, ← HQ.out, htk]
              unfold badO
              rw [HRO.out]
              simp
            generalize num (T, l) = N at NU TKS
            clear hrs hrc hrck htk
            go_upto_region 10 with fail
            refine wp_region_G 11 Gr (by kernel_rfl) ?_
            -- 0: slot 51
            refine wpG_take preGr (i := 0) (v := ?_) (by kernel_rfl) (some 51) (by kernel_rfl) rfl (by kernel_rfl) (by kernel_rfl) (by kernel_rfl) (fun _ _ _ h => h) (by rfl) (fun w' hw' => ?_) rfl ?_
            rotate_left
            · try have g0 := cellB' (HB3.out.drew.trans (hw'.mono HB3.out.size)) hbl HC0.out
              try have g1 := cellB' (HB3.out.drew.trans (hw'.mono HB3.out.size)) hbl HC1.out
              try have g2 := cellB' (HB3.out.drew.trans (hw'.mono HB3.out.size)) hrbl HRC.out.1
              try have g3 := cellB' (HB3.out.drew.trans (hw'.mono HB3.out.size)) hrbl HRC.out.2.1
              try have g4 := cellB' (HB3.out.drew.trans (hw'.mono HB3.out.size)) hrbl HRC.out.2.2.1
              try have g5 := cellB' (HB3.out.drew.trans (hw'.mono HB3.out.size)) hrbl HRC.out.2.2.2.1
              try have g6 := cellB' (HB3.out.drew.trans (hw'.mono HB3.out.size)) hrbl HRC.out.2.2.2.2.1
              try have g7 := cellB' (HB3.out.drew.trans (hw'.mono HB3.out.size)) hrbl HRC.out.2.2.2.2.2.1
              try have g8 := cellB' (HB3.out.drew.trans (hw'.mono HB3.out.size)) hrbl HRC.out.2.2.2.2.2.2
              go_simp
              with_reducible rfl
            simp only [Act.put, List.setIfInBounds_toArray, List.set_cons_zero, List.set_cons_succ]
            -- 1: slot 52
            refine wpG_take preGr (i := 1) (v := ?_) (by kernel_rfl) (some 52) (by kernel_rfl) rfl (by kernel_rfl) (by kernel_rfl) (by kernel_rfl) (fun _ _ _ h => h) (by rfl) (fun w' hw' => ?_) rfl ?_
            rotate_left
            · try have g0 := cellB' (HB3.out.drew.trans (hw'.mono HB3.out.size)) hbl HC0.out
              try have g1 := cellB' (HB3.out.drew.trans (hw'.mono HB3.out.size)) hbl HC1.out
              try have g2 := cellB' (HB3.out.drew.trans (hw'.mono HB3.out.size)) hrbl HRC.out.1
              try have g3 := cellB' (HB3.out.drew.trans (hw'.mono HB3.out.size)) hrbl HRC.out.2.1
              try have g4 := cellB' (HB3.out.drew.trans (hw'.mono HB3.out.size)) hrbl HRC.out.2.2.1
              try have g5 := cellB' (HB3.out.drew.trans (hw'.mono HB3.out.size)) hrbl HRC.out.2.2.2.1
              try have g6 := cellB' (HB3.out.drew.trans (hw'.mono HB3.out.size)) hrbl HRC.out.2.2.2.2.1
              try have g7 := cellB' (HB3.out.drew.trans (hw'.mono HB3.out.size)) hrbl HRC.out.2.2.2.2.2.1
              try have g8 := cellB' (HB3.out.drew.trans (hw'.mono HB3.out.size)) hrbl HRC.out.2.2.2.2.2.2
              go_simp
              with_reducible rfl
            simp only [Act.put, List.setIfInBounds_toArray, List.set_cons_zero, List.set_cons_succ]
            -- 2: slot 53
            refine wpG_take preGr (i := 2) (v := ?_) (by kernel_rfl) (some 53) (by kernel_rfl) rfl (by kernel_rfl) (by kernel_rfl) (by kernel_rfl) (fun _ _ _ h => h) (by rfl) (fun w' hw' => ?_) rfl ?_
            rotate_left
            · try have g0 := cellB' (HB3.out.drew.trans (hw'.mono HB3.out.size)) hbl HC0.out
              try have g1 := cellB' (HB3.out.drew.trans (hw'.mono HB3.out.size)) hbl HC1.out
              try have g2 := cellB' (HB3.out.drew.trans (hw'.mono HB3.out.size)) hrbl HRC.out.1
              try have g3 := cellB' (HB3.out.drew.trans (hw'.mono HB3.out.size)) hrbl HRC.out.2.1
              try have g4 := cellB' (HB3.out.drew.trans (hw'.mono HB3.out.size)) hrbl HRC.out.2.2.1
              try have g5 := cellB' (HB3.out.drew.trans (hw'.mono HB3.out.size)) hrbl HRC.out.2.2.2.1
              try have g6 := cellB' (HB3.out.drew.trans (hw'.mono HB3.out.size)) hrbl HRC.out.2.2.2.2.1
              try have g7 := cellB' (HB3.out.drew.trans (hw'.mono HB3.out.size)) hrbl HRC.out.2.2.2.2.2.1
              try have g8 := cellB' (HB3.out.drew.trans (hw'.mono HB3.out.size)) hrbl HRC.out.2.2.2.2.2.2
              go_simp
              with_reducible rfl
            simp only [Act.put, List.setIfInBounds_toArray, List.set_cons_zero, List.set_cons_succ]
            -- 3: slot 54
            refine wpG_take preGr (i := 3) (v := ?_) (by kernel_rfl) (some 54) (by kernel_rfl) rfl (by kernel_rfl) (by kernel_rfl) (by kernel_rfl) (fun _ _ _ h => h) (by rfl) (fun w' hw' => ?_) rfl ?_
            rotate_left
            · try have g0 := cellB' (HB3.out.drew.trans (hw'.mono HB3.out.size)) hbl HC0.out
              try have g1 := cellB' (HB3.out.drew.trans (hw'.mono HB3.out.size)) hbl HC1.out
              try have g2 := cellB' (HB3.out.drew.trans (hw'.mono HB3.out.size)) hrbl HRC.out.1
              try have g3 := cellB' (HB3.out.drew.trans (hw'.mono HB3.out.size)) hrbl HRC.out.2.1
              try have g4 := cellB' (HB3.out.drew.trans (hw'.mono HB3.out.size)) hrbl HRC.out.2.2.1
              try have g5 := cellB' (HB3.out.drew.trans (hw'.mono HB3.out.size)) hrbl HRC.out.2.2.2.1
              try have g6 := cellB' (HB3.out.drew.trans (hw'.mono HB3.out.size)) hrbl HRC.out.2.2.2.2.1
              try have g7 := cellB' (HB3.out.drew.trans (hw'.mono HB3.out.size)) hrbl HRC.out.2.2.2.2.2.1
              try have g8 := cellB' (HB3.out.drew.trans (hw'.mono HB3.out.size)) hrbl HRC.out.2.2.2.2.2.2
              go_simp
              with_reducible rfl
            simp only [Act.put, List.setIfInBounds_toArray, List.set_cons_zero, List.set_cons_succ]
            -- 4: slot 55
            refine wpG_take preGr (i := 4) (v := ?_) (by kernel_rfl) (some 55) (by kernel_rfl) rfl (by kernel_rfl) (by kernel_rfl) (by kernel_rfl) (fun _ _ _ h => h) (by rfl) (fun w' hw' => ?_) rfl ?_
            rotate_left
            · try have g0 := cellB' (HB3.out.drew.trans (hw'.mono HB3.out.size)) hbl HC0.out
              try have g1 := cellB' (HB3.out.drew.trans (hw'.mono HB3.out.size)) hbl HC1.out
              try have g2 := cellB' (HB3.out.drew.trans (hw'.mono HB3.out.size)) hrbl HRC.out.1
              try have g3 := cellB' (HB3.out.drew.trans (hw'.mono HB3.out.size)) hrbl HRC.out.2.1
              try have g4 := cellB' (HB3.out.drew.trans (hw'.mono HB3.out.size)) hrbl HRC.out.2.2.1
              try have g5 := cellB' (HB3.out.drew.trans (hw'.mono HB3.out.size)) hrbl HRC.out.2.2.2.1
              try have g6 := cellB' (HB3.out.drew.trans (hw'.mono HB3.out.size)) hrbl HRC.out.2.2.2.2.1
              try have g7 := cellB' (HB3.out.drew.trans (hw'.mono HB3.out.size)) hrbl HRC.out.2.2.2.2.2.1
              try have g8 := cellB' (HB3.out.drew.trans (hw'.mono HB3.out.size)) hrbl HRC.out.2.2.2.2.2.2
              go_simp
              with_reducible rfl
            simp only [Act.put, List.setIfInBounds_toArray, List.set_cons_zero, List.set_cons_succ]
            -- 5: slot 56
            refine wpG_take preGr (i := 5) (v := ?_) (by kernel_rfl) (some 56) (by kernel_rfl) rfl (by kernel_rfl) (by kernel_rfl) (by kernel_rfl) (fun _ _ _ h => h) (by rfl) (fun w' hw' => ?_) rfl ?_
            rotate_left
            · try have g0 := cellB' (HB3.out.drew.trans (hw'.mono HB3.out.size)) hbl HC0.out
              try have g1 := cellB' (HB3.out.drew.trans (hw'.mono HB3.out.size)) hbl HC1.out
              try have g2 := cellB' (HB3.out.drew.trans (hw'.mono HB3.out.size)) hrbl HRC.out.1
              try have g3 := cellB' (HB3.out.drew.trans (hw'.mono HB3.out.size)) hrbl HRC.out.2.1
              try have g4 := cellB' (HB3.out.drew.trans (hw'.mono HB3.out.size)) hrbl HRC.out.2.2.1
              try have g5 := cellB' (HB3.out.drew.trans (hw'.mono HB3.out.size)) hrbl HRC.out.2.2.2.1
              try have g6 := cellB' (HB3.out.drew.trans (hw'.mono HB3.out.size)) hrbl HRC.out.2.2.2.2.1
              try have g7 := cellB' (HB3.out.drew.trans (hw'.mono HB3.out.size)) hrbl HRC.out.2.2.2.2.2.1
              try have g8 := cellB' (HB3.out.drew.trans (hw'.mono HB3.out.size)) hrbl HRC.out.2.2.2.2.2.2
              go_simp
              with_reducible rfl
            simp only [Act.put, List.setIfInBounds_toArray, List.set_cons_zero, List.set_cons_succ]
            -- 6: slot 57
            refine wpG_take preGr (i := 6) (v := ?_) (by kernel_rfl) (some 57) (by kernel_rfl) rfl (by kernel_rfl) (by kernel_rfl) (by kernel_rfl) (fun _ _ _ h => h) (by rfl) (fun w' hw' => ?_) rfl ?_
            rotate_left
            · try have g0 := cellB' (HB3.out.drew.trans (hw'.mono HB3.out.size)) hbl HC0.out
              try have g1 := cellB' (HB3.out.drew.trans (hw'.mono HB3.out.size)) hbl HC1.out
              try have g2 := cellB' (HB3.out.drew.trans (hw'.mono HB3.out.size)) hrbl HRC.out.1
              try have g3 := cellB' (HB3.out.drew.trans (hw'.mono HB3.out.size)) hrbl HRC.out.2.1
              try have g4 := cellB' (HB3.out.drew.trans (hw'.mono HB3.out.size)) hrbl HRC.out.2.2.1
              try have g5 := cellB' (HB3.out.drew.trans (hw'.mono HB3.out.size)) hrbl HRC.out.2.2.2.1
              try have g6 := cellB' (HB3.out.drew.trans (hw'.mono HB3.out.size)) hrbl HRC.out.2.2.2.2.1
              try have g7 := cellB' (HB3.out.drew.trans (hw'.mono HB3.out.size)) hrbl HRC.out.2.2.2.2.2.1
              try have g8 := cellB' (HB3.out.drew.trans (hw'.mono HB3.out.size)) hrbl HRC.out.2.2.2.2.2.2
              go_simp
              with_reducible rfl
            simp only [Act.put, List.setIfInBounds_toArray, List.set_cons_zero, List.set_cons_succ]
            -- 7: slot 58
            refine wpG_take preGr (i := 7) (v := ?_) (by kernel_rfl) (some 58) (by kernel_rfl) rfl (by kernel_rfl) (by kernel_rfl) (by kernel_rfl) (fun _ _ _ h => h) (by rfl) (fun w' hw' => ?_) rfl ?_
            rotate_left
            · try have g0 := cellB' (HB3.out.drew.trans (hw'.mono HB3.out.size)) hbl HC0.out
              try have g1 := cellB' (HB3.out.drew.trans (hw'.mono HB3.out.size)) hbl HC1.out
              try have g2 := cellB' (HB3.out.drew.trans (hw'.mono HB3.out.size)) hrbl HRC.out.1
              try have g3 := cellB' (HB3.out.drew.trans (hw'.mono HB3.out.size)) hrbl HRC.out.2.1
              try have g4 := cellB' (HB3.out.drew.trans (hw'.mono HB3.out.size)) hrbl HRC.out.2.2.1
              try have g5 := cellB' (HB3.out.drew.trans (hw'.mono HB3.out.size)) hrbl HRC.out.2.2.2.1
              try have g6 := cellB' (HB3.out.drew.trans (hw'.mono HB3.out.size)) hrbl HRC.out.2.2.2.2.1
              try have g7 := cellB' (HB3.out.drew.trans (hw'.mono HB3.out.size)) hrbl HRC.out.2.2.2.2.2.1
              try have g8 := cellB' (HB3.out.drew.trans (hw'.mono HB3.out.size)) hrbl HRC.out.2.2.2.2.2.2
              go_simp
              with_reducible rfl
            simp only [Act.put, List.setIfInBounds_toArray, List.set_cons_zero, List.set_cons_succ]
            refine wpG_one (i := 8) rfl (by kernel_rfl) (by rfl) ?_
            go_simp
            refine (NU.out _ HB3.out.drew).mono ?_
            rintro e w4 ⟨rfl, hb4⟩
            refine ⟨hb4, ?_⟩
            have HQ4 : Hid (Gr w3 w4) := (Gr.drew w3).trans hb4
            clear hb4
            try simp only [Act.put, List.setIfInBounds_toArray, List.set_cons_zero, List.set_cons_succ]
            refine wpG_one (i := 9) rfl (by kernel_rfl) (by rfl) ?_
            go_simp
            refine (TKS.out _).mono ?_
            rintro e w5 ⟨rfl, hb5⟩
            refine ⟨hb5, ?_⟩
            have HQ5 : Hid (Gr w3 w5) := HQ4.out.trans hb5
            clear hb5
            try simp only [Act.put, List.setIfInBounds_toArray, List.set_cons_zero, List.set_cons_succ]
            -- 10: slot 61
            refine wpG_take preGr (i := 10) (v := ?_) (by kernel_rfl) (some 61) (by kernel_rfl) rfl (by kernel_rfl) (by kernel_rfl) (by kernel_rfl) (fun _ _ _ h => h) (by rfl) (fun w' hw' => ?_) rfl ?_
            rotate_left
            · go_simp
              with_reducible rfl
            simp only [Act.put, List.setIfInBounds_toArray, List.set_cons_zero, List.set_cons_succ]
            refine wpG_done (by kernel_rfl) ?_ _
            have HB5 := Lib.hid (HB3.out.trans (Below.mono HQ5.out HB3.out.size))
            have HD5' := Lib.hid (HD3.out.gr HQ5.out)
            clear HD3 HB3 HQ5 HQ4
            obtain ⟨w3, hw3⟩ : ∃ x, x = w5 := ⟨_, rfl⟩
            subst hw3
            have HB3 := HB5
            have HD3 := HD5'
            clear HB5 HD5'
            cases tk with
            | true =>
              go_wp2
              go_roundw
              case rel =>
                have HX : D3 w (rejs rs [] ((plain ts).take (i + 1))) ((bads rs [] ((plain ts).take (i + 1))).map (·.1)) ((bads rs [] ((plain ts).take (i + 1))).map (·.2)) rv bv nv w3 := by
                  rw [HNR.out, HNB.out, if_pos rfl, List.append_nil]
                  exact HD3.out
                first | exact ⟨i + 1, _, _, _, by omega, by go_num, rfl, rfl, rfl, HX⟩ | ((repeat apply Exists.intro); exact ⟨⟨i + 1, _, _, _, by omega, by go_num, rfl, rfl, rfl, HX⟩, rfl⟩)
              case measure => simp [intOf]; omega
            | false =>
              obtain ⟨RB, hR, hRl, hRo, hRv⟩ := HD3.out.b.own
              have HRP := Lib.hid hR
              have HRV := Lib.hid hRv
              have hal : Gr w3 (w3.alloc (.cells #[.int .i64 T, .slice A L C] 42)) := (Gr.refl _).alloc _
              have HD4 := Lib.hid (HD3.out.gr hal)
              obtain ⟨M, hM⟩ : ∃ M, M = ((bads rs [] ((plain ts).take i)).map (·.1)).length := ⟨_, rfl⟩
              have hM1 : M ≤ 1000 := by rw [hM]; exact by rw [List.length_map]; exact Nat.le_trans (bads_len rs _ []) (by rw [List.length_take]; omega)
              rw [← hM] at hRo
              have HMM := Lib.hid hM
              have HRo4 := Lib.hid (ownsRow_below hRo hal)
              have HSZ4 : Hid (w.heap.size ≤ (w3.alloc (.cells #[.int .i64 T, .slice A L C] 42)).heap.size) := Nat.le_trans HB3.out.size hal.size
              have q0 := cellB' HB3.out hbl HC0.out
              have q1 := cellB' HB3.out hbl HC1.out
              clear hR hRl hRo hRv hal hM
              go_wp2_with (at_builtin; refine wpList_append_where _ rfl (.tmp 62) (.tmp 67) 23 rfl w.heap.size 42 i0 _ 2 32 Try.underlying23 hi hz0 hz1 hz2 rfl (by decide) bv M (flat RB) rfl HRo4.out ⟨w3.heap.size, 0, none⟩ 1 1 [.int .i64 T, .slice A L C] rfl rfl (cells_new w3 [.int .i64 T, .slice A L C] 42) (one_tag T rfl) ?p1 ?p2 HSZ4.out ?_)
              case p1 => unfold maxLen; omega
              case p2 => omega
              intro vB w5 ho5 hg5 hw5
              have HD5 := Lib.hid (D3.addB (t := ⟨T, .slice A L C, l⟩) HD4.out HRP.out HRV.out (by rw [← HMM.out]; exact HRo4.out) HBS.out (by rw [← HMM.out]; exact ho5) hg5 (fun k hk => by rw [World.size_alloc]; exact hw5 k hk))
              clear ho5 hg5 hw5 q0 q1 HD4 HRo4 HRP HRV
              have HB6 := Lib.hid HD5.out.low
              have GO := Lib.hid (rgood_any r w5 HIS.out)
              have r0 := cellB' HB6.out hrbl HRC.out.1
              have r1 := cellB' HB6.out hrbl HRC.out.2.1
              have r2 := cellB' HB6.out hrbl HRC.out.2.2.1
              have r3 := cellB' HB6.out hrbl HRC.out.2.2.2.1
              have r4 := cellB' HB6.out hrbl HRC.out.2.2.2.2.1
              have r5 := cellB' HB6.out hrbl HRC.out.2.2.2.2.2.1
              have r6 := cellB' HB6.out hrbl HRC.out.2.2.2.2.2.2
              go_wp2_with fail
              refine GO.out.mono ?_
              rintro e w6 ⟨vg, rfl, hown, hb6⟩
              obtain ⟨A3, L3, C3, ev, hL3, _, _⟩ := hown.bs.sl
              subst ev
              have hal6 : Gr w6 (w6.alloc (.cells #[.int .i64 r.typ, .slice A3 L3 C3] 42)) := (Gr.refl _).alloc _
              have HD6 := Lib.hid ((HD5.out.gr hb6).gr hal6)
              have HO6 := Lib.hid ((hown.below hal6).mono (base' := w.heap.size) HB6.out.size)
              have HSZ6 : Hid (w.heap.size ≤ (w6.alloc (.cells #[.int .i64 r.typ, .slice A3 L3 C3] 42)).heap.size) := HD6.out.low.size
              obtain ⟨NN, hNN, hNo⟩ := HD6.out.n
              have HNN := Lib.hid hNN
              have HNO := Lib.hid hNo
              have hnl : NN.length ≤ 1000 := by
                rw [← plain_length, hNN, List.length_map]
                exact Nat.le_trans (bads_len rs _ []) (by rw [List.length_take]; omega)
              obtain ⟨M2, hM2⟩ : ∃ M, M = NN.length := ⟨_, rfl⟩
              rw [← hM2] at hnl
              have HNOW : Hid ((w6.alloc (.cells #[.int .i64 r.typ, .slice A3 L3 C3] 42)).ownsRow w.heap.size 42 2 nv M2 (flat NN)) := by rw [hM2]; exact hNo.own
              have HMM2 := Lib.hid hM2
              clear hown hb6 hL3 hal6 hNN hNo hM2 r0 r1 r2 r3 r4 r5 r6
              go_wp2_with (at_builtin; refine wpList_append_where _ rfl (.tmp 69) (.tmp 75) 23 rfl w.heap.size 42 i0 _ 2 32 Try.underlying23 hi hz0 hz1 hz2 rfl (by decide) nv M2 (flat NN) rfl HNOW.out ⟨w6.heap.size, 0, none⟩ 1 1 [.int .i64 r.typ, .slice A3 L3 C3] rfl rfl (cells_new w6 [.int .i64 r.typ, .slice A3 L3 C3] 42) (one_tag r.typ rfl) ?p1 ?p2 HSZ6.out ?_)
              case p1 => unfold maxLen; omega
              case p2 => omega
              intro vN w7 ho7 hg7 hw7
              have HD7 := Lib.hid (D3.addN (t := ⟨r.typ, .slice A3 L3 C3, (goodO r).2⟩) HD6.out HNN.out HNO.out HO6.out (by rw [← HMM2.out]; exact ho7) hg7 (fun k hk => by rw [World.size_alloc]; exact hw7 k hk))
              clear ho7 hg7 hw7
              go_wp2
              go_roundw
              case rel =>
                have HX : D3 w (rejs rs [] ((plain ts).take (i + 1))) ((bads rs [] ((plain ts).take (i + 1))).map (·.1)) ((bads rs [] ((plain ts).take (i + 1))).map (·.2)) rv vB vN w7 := by
                  rw [HNR.out, HNB.out, if_neg (by decide), List.map_append, List.map_append]
                  exact HD7.out
                first | exact ⟨i + 1, _, _, _, by omega, by go_num, rfl, rfl, rfl, HX⟩ | ((repeat apply Exists.intro); exact ⟨⟨i + 1, _, _, _, by omega, by go_num, rfl, rfl, rfl, HX⟩, rfl⟩)
              case measure => simp [intOf]; omega
        · have HB2 := Lib.hid (HB.out.trans (hb2.mono HB.out.size))
          have HD2 := Lib.hid (HD.out.gr hb2)
          have HRO := Lib.hid hro
          clear hb2 k0 k1 RU hro
          go_upto_region 8 with fail
          refine wp_region_G 13 Gr (by kernel_rfl) ?_
          -- 0: slot 31
          refine wpG_take preGr (i := 0) (v := ?_) (by kernel_rfl) (some 31) (by kernel_rfl) rfl (by kernel_rfl) (by kernel_rfl) (by kernel_rfl) (fun _ _ _ h => h) (by rfl) (fun w' hw' => ?_) rfl ?_
          rotate_left
          · go_simp
            with_reducible rfl
          simp only [Act.put, List.setIfInBounds_toArray, List.set_cons_zero, List.set_cons_succ]
          -- 1: slot 32
          refine wpG_take preGr (i := 1) (v := ?_) (by kernel_rfl) (some 32) (by kernel_rfl) rfl (by kernel_rfl) (by kernel_rfl) (by kernel_rfl) (fun _ _ _ h => h) (by rfl) (fun w' hw' => ?_) rfl ?_
          rotate_left
          · go_simp
            with_reducible rfl
          simp only [Act.put, List.setIfInBounds_toArray, List.set_cons_zero, List.set_cons_succ]
          -- 2: slot 33
          refine wpG_take preGr (i := 2) (v := ?_) (by kernel_rfl) (some 33) (by kernel_rfl) rfl (by kernel_rfl) (by kernel_rfl) (by kernel_rfl) (fun _ _ _ h => h) (by rfl) (fun w' hw' => ?_) rfl ?_
          rotate_left
          · go_simp
            with_reducible rfl
          simp only [Act.put, List.setIfInBounds_toArray, List.set_cons_zero, List.set_cons_succ]
          refine wpG_pass preGr (i := 3) (by kernel_rfl) (some 34) (by kernel_rfl) rfl (by kernel_rfl) (by kernel_rfl) (by kernel_rfl) (fun _ _ _ h => h) (by rfl) rfl ?_
          simp only [Act.put, List.setIfInBounds_toArray, List.set_cons_zero, List.set_cons_succ]
          refine wpG_pass preGr (i := 4) (by kernel_rfl) (some 35) (by kernel_rfl) rfl (by kernel_rfl) (by kernel_rfl) (by kernel_rfl) (fun _ _ _ h => h) (by rfl) rfl ?_
          simp only [Act.put, List.setIfInBounds_toArray, List.set_cons_zero, List.set_cons_succ]
          refine wpG_pass preGr (i := 5) (by kernel_rfl) (some 36) (by kernel_rfl) rfl (by kernel_rfl) (by kernel_rfl) (by kernel_rfl) (fun _ _ _ h => h) (by rfl) rfl ?_
          simp only [Act.put, List.setIfInBounds_toArray, List.set_cons_zero, List.set_cons_succ]
          refine wpG_pass preGr (i := 6) (by kernel_rfl) (some 37) (by kernel_rfl) rfl (by kernel_rfl) (by kernel_rfl) (by kernel_rfl) (fun _ _ _ h => h) (by rfl) rfl ?_
          simp only [Act.put, List.setIfInBounds_toArray, List.set_cons_zero, List.set_cons_succ]
          refine wpG_pass preGr (i := 7) (by kernel_rfl) (some 38) (by kernel_rfl) rfl (by kernel_rfl) (by kernel_rfl) (by kernel_rfl) (fun _ _ _ h => h) (by rfl) rfl ?_
          simp only [Act.put, List.setIfInBounds_toArray, List.set_cons_zero, List.set_cons_succ]
          refine wpG_pass preGr (i := 8) (by kernel_rfl) (some 39) (by kernel_rfl) rfl (by kernel_rfl) (by kernel_rfl) (by kernel_rfl) (fun _ _ _ h => h) (by rfl) rfl ?_
          simp only [Act.put, List.setIfInBounds_toArray, List.set_cons_zero, List.set_cons_succ]
          refine wpG_pass preGr (i := 9) (by kernel_rfl) (some 40) (by kernel_rfl) rfl (by kernel_rfl) (by kernel_rfl) (by kernel_rfl) (fun _ _ _ h => h) (by rfl) rfl ?_
          simp only [Act.put, List.setIfInBounds_toArray, List.set_cons_zero, List.set_cons_succ]
          refine wpG_pass preGr (i := 10) (by kernel_rfl) (some 41) (by kernel_rfl) rfl (by kernel_rfl) (by kernel_rfl) (by kernel_rfl) (fun _ _ _ h => h) (by rfl) rfl ?_
          simp only [Act.put, List.setIfInBounds_toArray, List.set_cons_zero, List.set_cons_succ]
          refine wpG_pass preGr (i := 11) (by kernel_rfl) (some 42) (by kernel_rfl) rfl (by kernel_rfl) (by kernel_rfl) (by kernel_rfl) (fun _ _ _ h => h) (by rfl) rfl ?_
          simp only [Act.put, List.setIfInBounds_toArray, List.set_cons_zero, List.set_cons_succ]
          -- 12: slot 43
          refine wpG_take preGr (i := 12) (v := ?_) (by kernel_rfl) (some 43) (by kernel_rfl) rfl (by kernel_rfl) (by kernel_rfl) (by kernel_rfl) (fun _ _ _ h => h) (by rfl) (fun w' hw' => ?_) rfl ?_
          rotate_left
          · go_simp
            with_reducible rfl
          simp only [Act.put, List.setIfInBounds_toArray, List.set_cons_zero, List.set_cons_succ]
          refine wpG_done (by kernel_rfl) ?_ _
          have HB3 : Hid (Below w.heap.size w w2.drew) := HB2.out.drew
          have HD3 : Hid (D3 w (rejs rs [] ((plain ts).take i)) ((bads rs [] ((plain ts).take i)).map (·.1)) ((bads rs [] ((plain ts).take i)).map (·.2)) rv bv nv w2.drew) := HD2.out.gr (Gr.drew w2)
          generalize w2.drew = w3 at HB3 HD3 ⊢
          clear HD2 HB2 HD HB
          have HNR : Hid (rejs rs [] ((plain ts).take (i + 1)) = rejs rs [] ((plain ts).take i) ++ [(T, l)]) := by
            show _ = _
            rw [HTK.out, rejs_snoc, HRO.out]
            simp
          have HNB : Hid (bads rs [] ((plain ts).take (i + 1)) = bads rs [] ((plain ts).take i)) := by
            show _ = _
            rw [HTK.out, bads_snoc]
            unfold badO
            rw [HRO.out, List.append_nil]
          obtain ⟨RR, hR, hRl, hRo, hRv⟩ := HD3.out.r.own
          have HRP := Lib.hid hR
          have HRV := Lib.hid hRv
          have hal : Gr w3 (w3.alloc (.cells #[.int .i64 T, .slice A L C] 42)) := (Gr.refl _).alloc _
          have HD4 := Lib.hid (HD3.out.gr hal)
          obtain ⟨M, hM⟩ : ∃ M, M = (rejs rs [] ((plain ts).take i)).length := ⟨_, rfl⟩
          have hM1 : M ≤ 1000 := by rw [hM]; exact Nat.le_trans (rejs_len rs _ []) (by rw [List.length_take]; omega)
          rw [← hM] at hRo
          have HMM := Lib.hid hM
          have HRo4 := Lib.hid (ownsRow_below hRo hal)
          have HSZ4 : Hid (w.heap.size ≤ (w3.alloc (.cells #[.int .i64 T, .slice A L C] 42)).heap.size) := Nat.le_trans HB3.out.size hal.size
          have q0 := cellB' HB3.out hbl HC0.out
          have q1 := cellB' HB3.out hbl HC1.out
          clear hR hRl hRo hRv hal hM
          go_wp2_with (at_builtin; refine wpList_append_where _ rfl (.tmp 44) (.tmp 49) 23 rfl w.heap.size 42 i0 _ 2 32 Try.underlying23 hi hz0 hz1 hz2 rfl (by decide) rv M (flat RR) rfl HRo4.out ⟨w3.heap.size, 0, none⟩ 1 1 [.int .i64 T, .slice A L C] rfl rfl (cells_new w3 [.int .i64 T, .slice A L C] 42) (one_tag T rfl) ?p1 ?p2 HSZ4.out ?_)
          case p1 => unfold maxLen; omega
          case p2 => omega
          intro vR w5 ho5 hg5 hw5
          have HD5 := Lib.hid (D3.addR (t := ⟨T, .slice A L C, l⟩) HD4.out HRP.out HRV.out (by rw [← HMM.out]; exact HRo4.out) HBS.out (by rw [← HMM.out]; exact ho5) hg5 (fun k hk => by rw [World.size_alloc]; exact hw5 k hk))
          clear ho5 hg5 hw5 q0 q1 HD4 HRo4 HRP HRV
          go_wp2
          go_roundw
          case rel =>
            have HX : D3 w (rejs rs [] ((plain ts).take (i + 1))) ((bads rs [] ((plain ts).take (i + 1))).map (·.1)) ((bads rs [] ((plain ts).take (i + 1))).map (·.2)) vR bv nv w5 := by
              rw [HNR.out, HNB.out]
              exact HD5.out
            first | exact ⟨i + 1, _, _, _, by omega, by go_num, rfl, rfl, rfl, HX⟩ | ((repeat apply Exists.intro); exact ⟨⟨i + 1, _, _, _, by omega, by go_num, rfl, rfl, rfl, HX⟩, rfl⟩)
          case measure => simp [intOf]; omega
      · obtain rfl : i = n := by omega
        have htk : (plain ts).take i = plain ts := List.take_of_length_le (by omega)
        rw [htk] at HD
        obtain ⟨RR0, hR, hRl, hRo, hRv⟩ := HD.out.r.own
        obtain ⟨m, hm⟩ : ∃ m, m = (rejs rs [] (plain ts)).length := ⟨_, rfl⟩
        rw [← hm] at hRo
        obtain ⟨a1, c1', ev, _, _⟩ := (own_rd hRo).shape
        subst ev
        have HTR1 : Hid (TR wr (.slice a1 m c1') m RR0) := ⟨own_rd hRo, fun x hx => (hRv x hx).below HB.out⟩
        have HP1 := Lib.hid hR
        have HMM := Lib.hid hm
        clear hR hRl hRo hRv hm htk
        by_cases h0 : 0 < m
        · have HANS : Hid (ans rs (plain ts) naks most = (4, rejs rs [] (plain ts))) := by
            show _ = _
            unfold ans
            rw [if_neg (by simpa using HA.out), if_pos (fun e => by have := HMM.out; rw [e] at this; simp at this; omega)]
          have h01 : (0 : Int) < (m : Int) := by omega
          go_wp2
          go_ret2
          exact RRes.of 4 _ a1 m c1' RR0 HANS.out HP1.out HTR1.out HB.out
        · obtain rfl : m = 0 := by omega
          have HREJ : Hid (rejs rs [] (plain ts) = []) := List.eq_nil_of_length_eq_zero HMM.out.symm
          have HD1 : Hid (D3 w (rejs rs [] (plain ts)) ((bads rs [] (plain ts)).map (·.1)) ((bads rs [] (plain ts)).map (·.2) ++ lackTo rs (plain ts) 0) (.slice a1 0 c1') bv nv wr) := by
            show D3 _ _ _ _ _ _ _ _
            have e : lackTo rs (plain ts) 0 = [] := by unfold lackTo lacks; rw [List.take_zero]; rfl
            rw [e, List.append_nil]
            exact HD.out
          clear HD HTR1 HP1 HMM h0 HB
          obtain ⟨wA, hwA⟩ : ∃ x, x = wr := ⟨_, rfl⟩
          subst hwA
          go_wp2
          go_loopw [12, 15] (fun s12 jv wr => ∃ (j : Nat) (nv : Value), j ≤ rn ∧ jv = .int .i64 (j : Int) ∧ nv = s12 ∧ D3 w (rejs rs [] (plain ts)) ((bads rs [] (plain ts)).map (·.1)) ((bads rs [] (plain ts)).map (·.2) ++ lackTo rs (plain ts) j) (.slice a1 0 c1') bv nv wr) (fun _ jv _ => rn - (intOf jv).toNat)
          case atStart => exact ⟨0, _, Nat.zero_le _, rfl, rfl, HD1.out⟩
          case round =>
            clear HD1
            obtain ⟨j, nv, hj, rfl, rfl, hd⟩ := hrel
            have HD := Lib.hid hd
            have HB := Lib.hid hd.low
            clear hd
            by_cases hlt : j < rn
            · obtain ⟨rb, ro, rfl, hrbl, hrc⟩ := HRR.out.cells (by omega)
              have hrck := hrc j (by omega)
              obtain ⟨r, hr⟩ : ∃ r, r = rs[j] := ⟨_, rfl⟩
              rw [← hr] at hrck
              have HRC := Lib.hid hrck
              have HIS : Hid (isR r) := by show isR r; rw [hr]; exact HA.out.2.1 _ (List.getElem_mem _)
              have HLK : Hid (lackTo rs (plain ts) (j + 1) = lackTo rs (plain ts) j ++ (if r.must && !hasT (plain ts) r.typ then [goodO r] else [])) := by
                show _ = _
                rw [lackTo_succ _ _ _ (by omega), ← hr]
              have hjr : (j : Int) < (rn : Int) := by omega
              obtain ⟨q, hq⟩ : ∃ q, q = hasT (plain ts) r.typ := ⟨_, rfl⟩
              have HSS := Lib.hid (has_any ao i c ts r.typ wr (HR.out.below HB.out) hn)
              rw [← hq] at HSS HLK
              have q0 := cellB' HB.out hrbl HRC.out.1
              have q6 := cellB' HB.out hrbl HRC.out.2.2.2.2.2.2
              have HMU : Hid (r.must = true ∨ r.must = false) := by show _ ∨ _; cases r.must <;> simp
              clear hrc hrck hr hq
              rcases HMU.out with hmu | hmu
              · rw [hmu] at q6
                rw [hmu, Bool.true_and] at HLK
                cases q with
                | true =>
                  go_wp2_with fail
                  refine HSS.out.mono ?_
                  rintro e w2 ⟨rfl, rfl⟩
                  go_wp2
                  go_roundw
                  case rel =>
                    have HX : D3 w (rejs rs [] (plain ts)) ((bads rs [] (plain ts)).map (·.1)) ((bads rs [] (plain ts)).map (·.2) ++ lackTo rs (plain ts) (j + 1)) (.slice a1 0 c1') bv nv wr := by
                      rw [HLK.out, if_neg (by decide), List.append_nil]
                      exact HD.out
                    first | exact ⟨j + 1, _, by omega, by go_num, rfl, HX⟩ | ((repeat apply Exists.intro); exact ⟨⟨j + 1, _, by omega, by go_num, rfl, HX⟩, rfl⟩)
                  case measure => simp [intOf]; omega
                | false =>
                  have r1 := cellB' HB.out hrbl HRC.out.2.1
                  have r2 := cellB' HB.out hrbl HRC.out.2.2.1
                  have r3 := cellB' HB.out hrbl HRC.out.2.2.2.1
                  have r4 := cellB' HB.out hrbl HRC.out.2.2.2.2.1
                  have r5 := cellB' HB.out hrbl HRC.out.2.2.2.2.2.1
                  have GO := Lib.hid (rgood_any r wr HIS.out)
                  rw [hmu] at GO
                  go_wp2_with fail
                  refine HSS.out.mono ?_
                  rintro e w2 ⟨rfl, rfl⟩
                  go_wp2_with fail
                  refine GO.out.mono ?_
                  rintro e w6 ⟨vg, rfl, hown, hb6⟩
                  obtain ⟨A3, L3, C3, ev, hL3, _, _⟩ := hown.bs.sl
                  subst ev
                  have hal6 : Gr w6 (w6.alloc (.cells #[.int .i64 r.typ, .slice A3 L3 C3] 42)) := (Gr.refl _).alloc _
                  have HD6 := Lib.hid ((HD.out.gr hb6).gr hal6)
                  have HO6 := Lib.hid ((hown.below hal6).mono (base' := w.heap.size) HB.out.size)
                  have HSZ6 : Hid (w.heap.size ≤ (w6.alloc (.cells #[.int .i64 r.typ, .slice A3 L3 C3] 42)).heap.size) := HD6.out.low.size
                  obtain ⟨NN, hNN, hNo⟩ := HD6.out.n
                  have HNN := Lib.hid hNN
                  have HNO := Lib.hid hNo
                  have hnl : NN.length ≤ 1016 := by
                    rw [← plain_length, hNN, List.length_append, List.length_map]
                    have h1 := bads_len rs (plain ts) []
                    have h2 := lackTo_length rs (plain ts) j
                    omega
                  obtain ⟨M2, hM2⟩ : ∃ M, M = NN.length := ⟨_, rfl⟩
                  rw [← hM2] at hnl
                  have HNOW : Hid ((w6.alloc (.cells #[.int .i64 r.typ, .slice A3 L3 C3] 42)).ownsRow w.heap.size 42 2 nv M2 (flat NN)) := by rw [hM2]; exact hNo.own
                  have HMM2 := Lib.hid hM2
                  clear hown hb6 hL3 hal6 hNN hNo hM2 q0 q6 r1 r2 r3 r4 r5
                  go_wp2_with (at_builtin; refine wpList_append_where _ rfl (.tmp 102) (.tmp 108) 23 rfl w.heap.size 42 i0 _ 2 32 Try.underlying23 hi hz0 hz1 hz2 rfl (by decide) nv M2 (flat NN) rfl HNOW.out ⟨w6.heap.size, 0, none⟩ 1 1 [.int .i64 r.typ, .slice A3 L3 C3] rfl rfl (cells_new w6 [.int .i64 r.typ, .slice A3 L3 C3] 42) (one_tag r.typ rfl) ?p1 ?p2 HSZ6.out ?_)
                  case p1 => unfold maxLen; omega
                  case p2 => omega
                  intro vN w7 ho7 hg7 hw7
                  have HD7 := Lib.hid (D3.addN (t := ⟨r.typ, .slice A3 L3 C3, (goodO r).2⟩) HD6.out HNN.out HNO.out HO6.out (by rw [← HMM2.out]; exact ho7) hg7 (fun k hk => by rw [World.size_alloc]; exact hw7 k hk))
                  clear ho7 hg7 hw7
                  go_wp2
                  go_roundw
                  case rel =>
                    have HX : D3 w (rejs rs [] (plain ts)) ((bads rs [] (plain ts)).map (·.1)) ((bads rs [] (plain ts)).map (·.2) ++ lackTo rs (plain ts) (j + 1)) (.slice a1 0 c1') bv vN w7 := by
                      rw [HLK.out, if_pos (by decide), ← List.append_assoc]
                      exact HD7.out
                    first | exact ⟨j + 1, _, by omega, by go_num, rfl, HX⟩ | ((repeat apply Exists.intro); exact ⟨⟨j + 1, _, by omega, by go_num, rfl, HX⟩, rfl⟩)
                  case measure => simp [intOf]; omega
              · rw [hmu] at q6
                rw [hmu, Bool.false_and] at HLK
                go_wp2
                go_roundw
                case rel =>
                  have HX : D3 w (rejs rs [] (plain ts)) ((bads rs [] (plain ts)).map (·.1)) ((bads rs [] (plain ts)).map (·.2) ++ lackTo rs (plain ts) (j + 1)) (.slice a1 0 c1') bv nv wr := by
                    rw [HLK.out, if_neg (by decide), List.append_nil]
                    exact HD.out
                  first | exact ⟨j + 1, _, by omega, by go_num, rfl, HX⟩ | ((repeat apply Exists.intro); exact ⟨⟨j + 1, _, by omega, by go_num, rfl, HX⟩, rfl⟩)
                case measure => simp [intOf]; omega
            · obtain rfl : j = rn := by omega
              have hlk : lackTo rs (plain ts) j = lacks rs (plain ts) := by unfold lackTo; rw [List.take_of_length_le (by omega)]
              rw [hlk] at HD
              obtain ⟨NN, hNN, hNo⟩ := HD.out.n
              obtain ⟨m2, hm2⟩ : ∃ m, m = NN.length := ⟨_, rfl⟩
              obtain ⟨a2, c2', ev, _, _⟩ := hNo.tr.shape
              rw [← hm2] at ev
              subst ev
              have HTR2 : Hid (TR wr (.slice a2 m2 c2') m2 NN) := by have := hNo.tr; rwa [← hm2] at this
              have HNN := Lib.hid hNN
              have HM2 : Hid (m2 = 0 ↔ (bads rs [] (plain ts)).map (·.2) ++ lacks rs (plain ts) = []) := by
                show _ ↔ _
                rw [← hNN, ← List.length_eq_zero_iff, plain_length, hm2]
              obtain ⟨BB, hBB, hBl, hBo, hBv⟩ := HD.out.b.own
              obtain ⟨m3, hm3⟩ : ∃ m, m = ((bads rs [] (plain ts)).map (·.1)).length := ⟨_, rfl⟩
              rw [← hm3] at hBo
              obtain ⟨a3, c3', ev, _, _⟩ := (own_rd hBo).shape
              subst ev
              have HTR3 : Hid (TR wr (.slice a3 m3 c3') m3 BB) := ⟨own_rd hBo, fun x hx => (hBv x hx).below HB.out⟩
              have HBB := Lib.hid hBB
              have HM3 : Hid (m3 = 0 ↔ bads rs [] (plain ts) = []) := by
                show _ ↔ _
                rw [hm3, List.length_map, List.length_eq_zero_iff]
              clear hNN hNo hm2 hBB hBl hBo hBv hm3 hlk
              by_cases h2 : m2 = 0
              · subst h2
                have HANS : Hid (ans rs (plain ts) naks most = (2, plain ts)) := by
                  show _ = _
                  unfold ans
                  rw [if_neg (by simpa using HA.out), if_neg (by simpa using HREJ.out), if_pos (HM2.out.1 rfl)]
                go_wp2
                go_ret2
                exact RRes.of 2 _ ao i c ts HANS.out rfl (HR.out.below HB.out) HB.out
              · have h2b : ((m2 : Int) == 0) = false := by simpa using h2
                have HN2 : Hid (¬ ((bads rs [] (plain ts)).map (·.2) ++ lacks rs (plain ts) = [])) := fun e => h2 (HM2.out.2 e)
                have hz2' : ¬ (m2 : Int) = 0 := by omega
                clear h2
                have HS : Hid (ans rs (plain ts) naks most = if most ≤ naks ∧ bads rs [] (plain ts) ≠ [] then (4, (bads rs [] (plain ts)).map (·.1)) else (3, (bads rs [] (plain ts)).map (·.2) ++ lacks rs (plain ts))) := by
                  show _ = _
                  unfold ans
                  rw [if_neg (by simpa using HA.out), if_neg (by simpa using HREJ.out), if_neg HN2.out]
                by_cases h3 : most ≤ naks
                · by_cases h4 : 0 < m3
                  · have h41 : (0 : Int) < (m3 : Int) := by omega
                    have HANS : Hid (ans rs (plain ts) naks most = (4, (bads rs [] (plain ts)).map (·.1))) := HS.out.trans (if_pos ⟨h3, fun e => by have := HM3.out.2 e; omega⟩)
                    go_wp2
                    go_ret2
                    exact RRes.of 4 _ a3 m3 c3' BB HANS.out HBB.out HTR3.out HB.out
                  · obtain rfl : m3 = 0 := by omega
                    have HANS : Hid (ans rs (plain ts) naks most = (3, (bads rs [] (plain ts)).map (·.2) ++ lacks rs (plain ts))) := HS.out.trans (if_neg fun h => h.2 (HM3.out.1 rfl))
                    go_wp2
                    go_ret2
                    exact RRes.of 3 _ a2 m2 c2' NN HANS.out HNN.out HTR2.out HB.out
                · have HANS : Hid (ans rs (plain ts) naks most = (3, (bads rs [] (plain ts)).map (·.2) ++ lacks rs (plain ts))) := HS.out.trans (if_neg fun h => h3 h.1)
                  go_wp2
                  go_ret2
                  exact RRes.of 3 _ a2 m2 c2' NN HANS.out HNN.out HTR2.out HB.out
  · rw [decide_eq_false ha] at AR
    have HANS : Hid (ans rs (plain ts) naks most = (0, [])) := by show _ = _; unfold ans; rw [if_pos ha]
    clear ha
    go_enter Try.func12, Try.ntmps12
    go_wp2_with fail
    refine AR.out.mono ?_
    rintro e w1 ⟨rfl, hb1⟩
    have HB1 := Lib.hid hb1
    clear hb1 AR
    go_wp2
    go_ret2
    exact RRes.of 0 _ none 0 0 [] HANS.out rfl (TR.nil _) HB1.out
end Go.Proofs.Ytbldcjngccmhpaa.Ng
