/-
  The laws' follow: a question that takes over what was answered.
-/
import Derived.Test.YtbldcjngccmhpaaNgI
import Derived.Test.YtbldcjngccmhpaaNgN
import Derived.Test.YtbldcjngccmhpaaNgS
namespace Go.Proofs.Ytbldcjngccmhpaa.Ng
open Go.RowKit O
set_option linter.unusedVariables false
set_option linter.unusedSimpArgs false
/-- What is asked next. -/
def fol (l : List PT) (code : Int) (x : List PT) : List PT × Bool := if code = 3 then ((lrn l 3 x).1 ++ x.filter (fun o => !hasT l o.1), (lrn l 3 x).2) else lrn l code x
theorem filter_succ (p : PT → Bool) (x : List PT) (i : Nat) (h : i < x.length) : (x.take (i + 1)).filter p = (x.take i).filter p ++ (if p x[i] then [x[i]] else []) := by
  rw [List.take_succ_eq_append_getElem h, List.filter_append]
  congr 1
  cases hp : p x[i] <;> simp [List.filter_cons, hp]
theorem hasT_take_succ (l : List PT) (t : Int) (k : Nat) (h : k < l.length) : hasT (l.take (k + 1)) t = (hasT (l.take k) t || decide (l[k].1 = t)) := by
  unfold hasT
  rw [List.take_succ_eq_append_getElem h, List.any_append]
  simp only [List.any_cons, List.any_nil, Bool.or_false]
/-- What follow tells. -/
def FRes (x : List PT × Bool) (w : World) (e : Ending) (w' : World) : Prop := ∃ a m c us, e = .returned (.tuple #[.slice a m c, .bool x.2]) ∧ plain us = x.1 ∧ TR w' (.slice a m c) m us ∧ Below w.heap.size w w'
theorem FRes.of {x : List PT × Bool} {w w' : World} (l : List PT) (b : Bool) (a : Option Addr) (m c : Nat) (us : List Tg) (h : x = (l, b)) (h1 : plain us = l) (h2 : TR w' (.slice a m c) m us) (h3 : Below w.heap.size w w') : FRes x w (.returned (.tuple #[.slice a m c, .bool b])) w' := by
  subst h
  exact ⟨a, m, c, us, rfl, h1, h2, h3⟩

set_option maxRecDepth 20000 in
set_option maxHeartbeats 8000000 in
theorem follow_any (ao : Option Addr) (n c : Nat) (qs : List Tg) (code : Int) (la : Option Addr) (ln lc : Nat) (ts : List Tg) (w : World) (hra : TR w (.slice ao n c) n qs) (hrt : TR w (.slice la ln lc) ln ts) (hn : n ≤ 1000) (hln : ln ≤ 1000)
    (hma : ∀ x ∈ qs, x.l.length ≤ 1000) (hmt : ∀ x ∈ ts, x.l.length ≤ 1000) (hia : ∀ x ∈ qs, I64 x.typ) (hit : ∀ x ∈ ts, I64 x.typ) :
    Calls Try.prog 21 #[.slice ao n c, .int .i64 code, .slice la ln lc] w (FRes (fol (plain qs) code (plain ts)) w) := by
  obtain ⟨i0, hi, hz0, hz1, hz2⟩ := info_parts infoT
  have LE := Lib.hid (learn_any ao n c qs code la ln lc ts w hra hrt hn hln hma hmt hia hit)
  have hl := hra.len
  have hl2 := hrt.len
  have HRA := Lib.hid hra
  have HRT := Lib.hid hrt
  clear hra hrt hma hmt hia hit
  obtain ⟨B, hB⟩ : ∃ B, B = (lrn (plain qs) code (plain ts)).2 := ⟨_, rfl⟩
  have HBB := Lib.hid hB
  go_enter Try.func21, Try.ntmps21
  go_wp2_with fail
  refine LE.out.mono ?_
  rintro e w5 ⟨v5, us5, rfl, hp5, hto5, hb5⟩
  rw [← hB]
  obtain ⟨x5, y5, ev, _, _⟩ := hto5.tr.shape
  subst ev
  have HP5 := Lib.hid hp5
  have HB5 := Lib.hid hb5
  have HT5 := Lib.hid hto5.tr
  obtain ⟨N5, hN5⟩ : ∃ N, N = us5.length := ⟨_, rfl⟩
  rw [← hN5] at HT5 ⊢
  have HN5 := Lib.hid hN5
  clear hp5 hto5 hb5 hB LE hN5
  by_cases h3 : code = 3
  · subst h3
    have HLL : Hid (us5.length ≤ n) := by
      show _ ≤ _
      rw [← plain_length, HP5.out]
      unfold lrn
      split
      · rw [plain_length]; omega
      · rw [if_pos rfl, List.length_map, plain_length]; omega
    go_wp2
    go_loopw [8, 10] (fun s8 iv wr => ∃ (i : Nat) (lv : Value) (us : List Tg), i ≤ ln ∧ iv = .int .i64 (i : Int) ∧ lv = s8 ∧ plain us = (lrn (plain qs) 3 (plain ts)).1 ++ ((plain ts).take i).filter (fun o => !hasT (plain qs) o.1) ∧ us.length ≤ n + i ∧ TR wr lv us.length us ∧ Below w.heap.size w wr) (fun _ iv _ => ln - (intOf iv).toNat)
    case atStart => exact ⟨0, _, us5, Nat.zero_le _, rfl, rfl, by rw [HP5.out, List.take_zero]; simp, HLL.out, by have := HT5.out; rwa [HN5.out] at this ⊢, HB5.out⟩
    case round =>
      obtain ⟨i, lv, us, hin, rfl, rfl, hus, hul, htr, hb⟩ := hrel
      have HUS := Lib.hid hus
      have HTR := Lib.hid htr
      have HB := Lib.hid hb
      clear hus htr hb
      by_cases hlt : i < ln
      · obtain ⟨b, o, rfl, hbl, hc⟩ := HRT.out.cells (by omega)
        obtain ⟨hc0, hc1⟩ := hc i (by omega)
        have hv0 := HRT.out.val i (by omega)
        obtain ⟨A, L, C, hv, hL, hLC, hCm⟩ := hv0.sl
        rw [hv] at hc1 hv0
        obtain ⟨T, hT⟩ : ∃ T, T = ts[i].typ := ⟨_, rfl⟩
        obtain ⟨l, hlq⟩ : ∃ l, l = ts[i].l := ⟨_, rfl⟩
        rw [← hT] at hc0
        rw [← hlq] at hv0
        have HBS := Lib.hid hv0
        have HSU : Hid (((plain ts).take (i + 1)).filter (fun o => !hasT (plain qs) o.1) = ((plain ts).take i).filter (fun o => !hasT (plain qs) o.1) ++ (if hasT (plain qs) T then [] else [(T, l)])) := by
          show _ = _
          rw [filter_succ _ _ _ (by rw [plain_length]; omega), plain_get _ _ (by omega), ← hT, ← hlq]
          cases hasT (plain qs) T <;> rfl
        have HC0 := Lib.hid hc0
        have HC1 := Lib.hid hc1
        have hin2 : (i : Int) < (ln : Int) := by omega
        obtain ⟨wA, hwA⟩ : ∃ x, x = wr := ⟨_, rfl⟩
        subst hwA
        clear hc hv hL hT hlq hc0 hc1 hv0
        go_wp2
        go_loopw [11, 12] (fun tv kv wr => ∃ (k : Nat) (q : Bool), k ≤ n ∧ kv = .int .i64 (k : Int) ∧ tv = .bool q ∧ q = hasT ((plain qs).take k) T ∧ Gr wA wr) (fun _ kv _ => n - (intOf kv).toNat)
        case atStart => exact ⟨0, false, Nat.zero_le _, rfl, rfl, by rw [List.take_zero]; rfl, Gr.refl _⟩
        case round =>
          obtain ⟨k, q, hk, rfl, rfl, hq, hgr⟩ := hrel
          have HQ := Lib.hid hq
          have HGR := Lib.hid hgr
          have HBW : Hid (Below w.heap.size w wr) := HB.out.trans (Below.mono hgr HB.out.size)
          clear hq hgr
          by_cases hlt2 : k < n
          · obtain ⟨b2, o2, rfl, hbl2, hd⟩ := HRA.out.cells (by omega)
            have hd0 := (hd k (by omega)).1
            obtain ⟨U, hU⟩ : ∃ U, U = qs[k].typ := ⟨_, rfl⟩
            rw [← hU] at hd0
            have HD0 := Lib.hid hd0
            have HST : Hid (hasT ((plain qs).take (k + 1)) T = (q || (U == T))) := by
              show _ = _
              rw [hasT_take_succ _ _ _ (by rw [plain_length]; omega), plain_get _ _ (by omega), ← hU, ← HQ.out, Bool.beq_eq_decide_eq]
            have hkn : (k : Int) < (n : Int) := by omega
            clear hd hd0 hU
            cases q with
            | true =>
              go_upto_region 11 with fail
              refine wp_region_G 15 Gr (by kernel_rfl) ?_
              -- 0: slot 36
              refine wpG_take preGr (i := 0) (v := ?_) (by kernel_rfl) (some 36) (by kernel_rfl) rfl (by kernel_rfl) (by kernel_rfl) (by kernel_rfl) (fun _ _ _ h => h) (by rfl) (fun w' hw' => ?_) rfl ?_
              rotate_left
              · go_simp
                with_reducible rfl
              simp only [Act.put, List.setIfInBounds_toArray, List.set_cons_zero, List.set_cons_succ]
              -- 1: slot 37
              refine wpG_take preGr (i := 1) (v := ?_) (by kernel_rfl) (some 37) (by kernel_rfl) rfl (by kernel_rfl) (by kernel_rfl) (by kernel_rfl) (fun _ _ _ h => h) (by rfl) (fun w' hw' => ?_) rfl ?_
              rotate_left
              · go_simp
                with_reducible rfl
              simp only [Act.put, List.setIfInBounds_toArray, List.set_cons_zero, List.set_cons_succ]
              refine wpG_pass preGr (i := 2) (by kernel_rfl) (some 38) (by kernel_rfl) rfl (by kernel_rfl) (by kernel_rfl) (by kernel_rfl) (fun _ _ _ h => h) (by rfl) rfl ?_
              simp only [Act.put, List.setIfInBounds_toArray, List.set_cons_zero, List.set_cons_succ]
              refine wpG_pass preGr (i := 3) (by kernel_rfl) (some 39) (by kernel_rfl) rfl (by kernel_rfl) (by kernel_rfl) (by kernel_rfl) (fun _ _ _ h => h) (by rfl) rfl ?_
              simp only [Act.put, List.setIfInBounds_toArray, List.set_cons_zero, List.set_cons_succ]
              refine wpG_pass preGr (i := 4) (by kernel_rfl) (some 40) (by kernel_rfl) rfl (by kernel_rfl) (by kernel_rfl) (by kernel_rfl) (fun _ _ _ h => h) (by rfl) rfl ?_
              simp only [Act.put, List.setIfInBounds_toArray, List.set_cons_zero, List.set_cons_succ]
              refine wpG_pass preGr (i := 5) (by kernel_rfl) (some 41) (by kernel_rfl) rfl (by kernel_rfl) (by kernel_rfl) (by kernel_rfl) (fun _ _ _ h => h) (by rfl) rfl ?_
              simp only [Act.put, List.setIfInBounds_toArray, List.set_cons_zero, List.set_cons_succ]
              refine wpG_pass preGr (i := 6) (by kernel_rfl) (some 42) (by kernel_rfl) rfl (by kernel_rfl) (by kernel_rfl) (by kernel_rfl) (fun _ _ _ h => h) (by rfl) rfl ?_
              simp only [Act.put, List.setIfInBounds_toArray, List.set_cons_zero, List.set_cons_succ]
              refine wpG_pass preGr (i := 7) (by kernel_rfl) (some 43) (by kernel_rfl) rfl (by kernel_rfl) (by kernel_rfl) (by kernel_rfl) (fun _ _ _ h => h) (by rfl) rfl ?_
              simp only [Act.put, List.setIfInBounds_toArray, List.set_cons_zero, List.set_cons_succ]
              refine wpG_pass preGr (i := 8) (by kernel_rfl) (some 44) (by kernel_rfl) rfl (by kernel_rfl) (by kernel_rfl) (by kernel_rfl) (fun _ _ _ h => h) (by rfl) rfl ?_
              simp only [Act.put, List.setIfInBounds_toArray, List.set_cons_zero, List.set_cons_succ]
              refine wpG_pass preGr (i := 9) (by kernel_rfl) (some 45) (by kernel_rfl) rfl (by kernel_rfl) (by kernel_rfl) (by kernel_rfl) (fun _ _ _ h => h) (by rfl) rfl ?_
              simp only [Act.put, List.setIfInBounds_toArray, List.set_cons_zero, List.set_cons_succ]
              refine wpG_pass preGr (i := 10) (by kernel_rfl) (some 46) (by kernel_rfl) rfl (by kernel_rfl) (by kernel_rfl) (by kernel_rfl) (fun _ _ _ h => h) (by rfl) rfl ?_
              simp only [Act.put, List.setIfInBounds_toArray, List.set_cons_zero, List.set_cons_succ]
              refine wpG_pass preGr (i := 11) (by kernel_rfl) (some 47) (by kernel_rfl) rfl (by kernel_rfl) (by kernel_rfl) (by kernel_rfl) (fun _ _ _ h => h) (by rfl) rfl ?_
              simp only [Act.put, List.setIfInBounds_toArray, List.set_cons_zero, List.set_cons_succ]
              refine wpG_pass preGr (i := 12) (by kernel_rfl) (some 48) (by kernel_rfl) rfl (by kernel_rfl) (by kernel_rfl) (by kernel_rfl) (fun _ _ _ h => h) (by rfl) rfl ?_
              simp only [Act.put, List.setIfInBounds_toArray, List.set_cons_zero, List.set_cons_succ]
              -- 13: slot 49
              refine wpG_take preGr (i := 13) (v := ?_) (by kernel_rfl) (some 49) (by kernel_rfl) rfl (by kernel_rfl) (by kernel_rfl) (by kernel_rfl) (fun _ _ _ h => h) (by rfl) (fun w' hw' => ?_) rfl ?_
              rotate_left
              · go_simp
                with_reducible rfl
              simp only [Act.put, List.setIfInBounds_toArray, List.set_cons_zero, List.set_cons_succ]
              -- 14: slot 11
              refine wpG_take preGr (i := 14) (v := ?_) (by kernel_rfl) (some 11) (by kernel_rfl) rfl (by kernel_rfl) (by kernel_rfl) (by kernel_rfl) (fun _ _ _ h => h) (by rfl) (fun w' hw' => ?_) rfl ?_
              rotate_left
              · go_simp
                with_reducible rfl
              simp only [Act.put, List.setIfInBounds_toArray, List.set_cons_zero, List.set_cons_succ]
              refine wpG_done (by kernel_rfl) ?_ _
              go_wp2
              go_roundw
              case rel =>
                have HX : true = hasT ((plain qs).take (k + 1)) T := by rw [HST.out]; rfl
                have HY : Gr wA wr.drew := HGR.out.trans (Gr.drew wr)
                first | exact ⟨k + 1, true, by omega, by go_num, rfl, HX, HY⟩ | ((repeat apply Exists.intro); exact ⟨⟨k + 1, true, by omega, by go_num, rfl, HX, HY⟩, rfl⟩)
              case measure => simp [intOf]; omega
            | false =>
              go_upto_region 11 with fail
              refine wp_region_G 15 Gr (by kernel_rfl) ?_
              -- 0: slot 36
              refine wpG_take preGr (i := 0) (v := ?_) (by kernel_rfl) (some 36) (by kernel_rfl) rfl (by kernel_rfl) (by kernel_rfl) (by kernel_rfl) (fun _ _ _ h => h) (by rfl) (fun w' hw' => ?_) rfl ?_
              rotate_left
              · try have g0 := cellB' (HBW.out.drew.trans (hw'.mono HBW.out.size)) hbl HC0.out
                try have g1 := cellB' (HBW.out.drew.trans (hw'.mono HBW.out.size)) hbl2 HD0.out
                go_simp
                with_reducible rfl
              simp only [Act.put, List.setIfInBounds_toArray, List.set_cons_zero, List.set_cons_succ]
              -- 1: slot 37
              refine wpG_take preGr (i := 1) (v := ?_) (by kernel_rfl) (some 37) (by kernel_rfl) rfl (by kernel_rfl) (by kernel_rfl) (by kernel_rfl) (fun _ _ _ h => h) (by rfl) (fun w' hw' => ?_) rfl ?_
              rotate_left
              · try have g0 := cellB' (HBW.out.drew.trans (hw'.mono HBW.out.size)) hbl HC0.out
                try have g1 := cellB' (HBW.out.drew.trans (hw'.mono HBW.out.size)) hbl2 HD0.out
                go_simp
                with_reducible rfl
              simp only [Act.put, List.setIfInBounds_toArray, List.set_cons_zero, List.set_cons_succ]
              -- 2: slot 38
              refine wpG_take preGr (i := 2) (v := ?_) (by kernel_rfl) (some 38) (by kernel_rfl) rfl (by kernel_rfl) (by kernel_rfl) (by kernel_rfl) (fun _ _ _ h => h) (by rfl) (fun w' hw' => ?_) rfl ?_
              rotate_left
              · try have g0 := cellB' (HBW.out.drew.trans (hw'.mono HBW.out.size)) hbl HC0.out
                try have g1 := cellB' (HBW.out.drew.trans (hw'.mono HBW.out.size)) hbl2 HD0.out
                go_simp
                with_reducible rfl
              simp only [Act.put, List.setIfInBounds_toArray, List.set_cons_zero, List.set_cons_succ]
              -- 3: slot 39
              refine wpG_take preGr (i := 3) (v := ?_) (by kernel_rfl) (some 39) (by kernel_rfl) rfl (by kernel_rfl) (by kernel_rfl) (by kernel_rfl) (fun _ _ _ h => h) (by rfl) (fun w' hw' => ?_) rfl ?_
              rotate_left
              · try have g0 := cellB' (HBW.out.drew.trans (hw'.mono HBW.out.size)) hbl HC0.out
                try have g1 := cellB' (HBW.out.drew.trans (hw'.mono HBW.out.size)) hbl2 HD0.out
                go_simp
                with_reducible rfl
              simp only [Act.put, List.setIfInBounds_toArray, List.set_cons_zero, List.set_cons_succ]
              -- 4: slot 40
              refine wpG_take preGr (i := 4) (v := ?_) (by kernel_rfl) (some 40) (by kernel_rfl) rfl (by kernel_rfl) (by kernel_rfl) (by kernel_rfl) (fun _ _ _ h => h) (by rfl) (fun w' hw' => ?_) rfl ?_
              rotate_left
              · try have g0 := cellB' (HBW.out.drew.trans (hw'.mono HBW.out.size)) hbl HC0.out
                try have g1 := cellB' (HBW.out.drew.trans (hw'.mono HBW.out.size)) hbl2 HD0.out
                go_simp
                with_reducible rfl
              simp only [Act.put, List.setIfInBounds_toArray, List.set_cons_zero, List.set_cons_succ]
              -- 5: slot 41
              refine wpG_take preGr (i := 5) (v := ?_) (by kernel_rfl) (some 41) (by kernel_rfl) rfl (by kernel_rfl) (by kernel_rfl) (by kernel_rfl) (fun _ _ _ h => h) (by rfl) (fun w' hw' => ?_) rfl ?_
              rotate_left
              · try have g0 := cellB' (HBW.out.drew.trans (hw'.mono HBW.out.size)) hbl HC0.out
                try have g1 := cellB' (HBW.out.drew.trans (hw'.mono HBW.out.size)) hbl2 HD0.out
                go_simp
                with_reducible rfl
              simp only [Act.put, List.setIfInBounds_toArray, List.set_cons_zero, List.set_cons_succ]
              -- 6: slot 42
              refine wpG_take preGr (i := 6) (v := ?_) (by kernel_rfl) (some 42) (by kernel_rfl) rfl (by kernel_rfl) (by kernel_rfl) (by kernel_rfl) (fun _ _ _ h => h) (by rfl) (fun w' hw' => ?_) rfl ?_
              rotate_left
              · try have g0 := cellB' (HBW.out.drew.trans (hw'.mono HBW.out.size)) hbl HC0.out
                try have g1 := cellB' (HBW.out.drew.trans (hw'.mono HBW.out.size)) hbl2 HD0.out
                go_simp
                with_reducible rfl
              simp only [Act.put, List.setIfInBounds_toArray, List.set_cons_zero, List.set_cons_succ]
              -- 7: slot 43
              refine wpG_take preGr (i := 7) (v := ?_) (by kernel_rfl) (some 43) (by kernel_rfl) rfl (by kernel_rfl) (by kernel_rfl) (by kernel_rfl) (fun _ _ _ h => h) (by rfl) (fun w' hw' => ?_) rfl ?_
              rotate_left
              · try have g0 := cellB' (HBW.out.drew.trans (hw'.mono HBW.out.size)) hbl HC0.out
                try have g1 := cellB' (HBW.out.drew.trans (hw'.mono HBW.out.size)) hbl2 HD0.out
                go_simp
                with_reducible rfl
              simp only [Act.put, List.setIfInBounds_toArray, List.set_cons_zero, List.set_cons_succ]
              -- 8: slot 44
              refine wpG_take preGr (i := 8) (v := ?_) (by kernel_rfl) (some 44) (by kernel_rfl) rfl (by kernel_rfl) (by kernel_rfl) (by kernel_rfl) (fun _ _ _ h => h) (by rfl) (fun w' hw' => ?_) rfl ?_
              rotate_left
              · try have g0 := cellB' (HBW.out.drew.trans (hw'.mono HBW.out.size)) hbl HC0.out
                try have g1 := cellB' (HBW.out.drew.trans (hw'.mono HBW.out.size)) hbl2 HD0.out
                go_simp
                with_reducible rfl
              simp only [Act.put, List.setIfInBounds_toArray, List.set_cons_zero, List.set_cons_succ]
              -- 9: slot 45
              refine wpG_take preGr (i := 9) (v := ?_) (by kernel_rfl) (some 45) (by kernel_rfl) rfl (by kernel_rfl) (by kernel_rfl) (by kernel_rfl) (fun _ _ _ h => h) (by rfl) (fun w' hw' => ?_) rfl ?_
              rotate_left
              · try have g0 := cellB' (HBW.out.drew.trans (hw'.mono HBW.out.size)) hbl HC0.out
                try have g1 := cellB' (HBW.out.drew.trans (hw'.mono HBW.out.size)) hbl2 HD0.out
                go_simp
                with_reducible rfl
              simp only [Act.put, List.setIfInBounds_toArray, List.set_cons_zero, List.set_cons_succ]
              -- 10: slot 46
              refine wpG_take preGr (i := 10) (v := ?_) (by kernel_rfl) (some 46) (by kernel_rfl) rfl (by kernel_rfl) (by kernel_rfl) (by kernel_rfl) (fun _ _ _ h => h) (by rfl) (fun w' hw' => ?_) rfl ?_
              rotate_left
              · try have g0 := cellB' (HBW.out.drew.trans (hw'.mono HBW.out.size)) hbl HC0.out
                try have g1 := cellB' (HBW.out.drew.trans (hw'.mono HBW.out.size)) hbl2 HD0.out
                go_simp
                with_reducible rfl
              simp only [Act.put, List.setIfInBounds_toArray, List.set_cons_zero, List.set_cons_succ]
              -- 11: slot 47
              refine wpG_take preGr (i := 11) (v := ?_) (by kernel_rfl) (some 47) (by kernel_rfl) rfl (by kernel_rfl) (by kernel_rfl) (by kernel_rfl) (fun _ _ _ h => h) (by rfl) (fun w' hw' => ?_) rfl ?_
              rotate_left
              · try have g0 := cellB' (HBW.out.drew.trans (hw'.mono HBW.out.size)) hbl HC0.out
                try have g1 := cellB' (HBW.out.drew.trans (hw'.mono HBW.out.size)) hbl2 HD0.out
                go_simp
                with_reducible rfl
              simp only [Act.put, List.setIfInBounds_toArray, List.set_cons_zero, List.set_cons_succ]
              -- 12: slot 48
              refine wpG_take preGr (i := 12) (v := ?_) (by kernel_rfl) (some 48) (by kernel_rfl) rfl (by kernel_rfl) (by kernel_rfl) (by kernel_rfl) (fun _ _ _ h => h) (by rfl) (fun w' hw' => ?_) rfl ?_
              rotate_left
              · try have g0 := cellB' (HBW.out.drew.trans (hw'.mono HBW.out.size)) hbl HC0.out
                try have g1 := cellB' (HBW.out.drew.trans (hw'.mono HBW.out.size)) hbl2 HD0.out
                go_simp
                with_reducible rfl
              simp only [Act.put, List.setIfInBounds_toArray, List.set_cons_zero, List.set_cons_succ]
              -- 13: slot 49
              refine wpG_take preGr (i := 13) (v := ?_) (by kernel_rfl) (some 49) (by kernel_rfl) rfl (by kernel_rfl) (by kernel_rfl) (by kernel_rfl) (fun _ _ _ h => h) (by rfl) (fun w' hw' => ?_) rfl ?_
              rotate_left
              · try have g0 := cellB' (HBW.out.drew.trans (hw'.mono HBW.out.size)) hbl HC0.out
                try have g1 := cellB' (HBW.out.drew.trans (hw'.mono HBW.out.size)) hbl2 HD0.out
                go_simp
                with_reducible rfl
              simp only [Act.put, List.setIfInBounds_toArray, List.set_cons_zero, List.set_cons_succ]
              -- 14: slot 11
              refine wpG_take preGr (i := 14) (v := ?_) (by kernel_rfl) (some 11) (by kernel_rfl) rfl (by kernel_rfl) (by kernel_rfl) (by kernel_rfl) (fun _ _ _ h => h) (by rfl) (fun w' hw' => ?_) rfl ?_
              rotate_left
              · try have g0 := cellB' (HBW.out.drew.trans (hw'.mono HBW.out.size)) hbl HC0.out
                try have g1 := cellB' (HBW.out.drew.trans (hw'.mono HBW.out.size)) hbl2 HD0.out
                go_simp
                with_reducible rfl
              simp only [Act.put, List.setIfInBounds_toArray, List.set_cons_zero, List.set_cons_succ]
              refine wpG_done (by kernel_rfl) ?_ _
              go_wp2
              go_roundw
              case rel =>
                have HX : (U == T) = hasT ((plain qs).take (k + 1)) T := by rw [HST.out]; rfl
                have HY : Gr wA wr.drew := HGR.out.trans (Gr.drew wr)
                first | exact ⟨k + 1, (U == T), by omega, by go_num, rfl, HX, HY⟩ | ((repeat apply Exists.intro); exact ⟨⟨k + 1, (U == T), by omega, by go_num, rfl, HX, HY⟩, rfl⟩)
              case measure => simp [intOf]; omega
          · obtain rfl : k = n := by omega
            have HQ2 : Hid (q = hasT (plain qs) T) := by have := HQ.out; rwa [List.take_of_length_le (by rw [plain_length]; omega)] at this
            rw [← HQ2.out] at HSU
            have HTRW := Lib.hid (HTR.out.below HGR.out)
            cases q with
            | true =>
              go_wp2
              go_roundw
              case rel =>
                have HX : plain us = (lrn (plain qs) 3 (plain ts)).1 ++ ((plain ts).take (i + 1)).filter (fun o => !hasT (plain qs) o.1) := by rw [HSU.out, if_pos rfl, List.append_nil]; exact HUS.out
                first | exact ⟨i + 1, _, us, by omega, by go_num, rfl, HX, by omega, HTRW.out, HBW.out⟩ | ((repeat apply Exists.intro); exact ⟨⟨i + 1, _, us, by omega, by go_num, rfl, HX, by omega, HTRW.out, HBW.out⟩, rfl⟩)
              case measure => simp [intOf]; omega
            | false =>
              have hul2 : us.length ≤ 2000 := by omega
              have HC : Hid (Below wr.heap.size wr wr.drew) := (Below.refl _ _).drew
              go_upto_region 13 with fail
              refine wp_region_G 10 (Below (wr.heap.size)) (by kernel_rfl) ?_
              generalize wr.drew = wc at HC ⊢
              -- 1: slot 53
              refine wpG_take (preBelow (wr.heap.size)) (i := 1) (v := ?_) (by kernel_rfl) (some 53) (by kernel_rfl) rfl (by kernel_rfl) (by kernel_rfl) (by kernel_rfl) (fun _ _ _ h => h) (by rfl) (fun w' hw' => ?_) rfl ?_
              rotate_left
              · try have g0 := cellB' ((HBW.out.trans (HC.out.mono HBW.out.size)).trans (hw'.mono HBW.out.size)) hbl HC0.out
                try have g1 := cellB' ((HBW.out.trans (HC.out.mono HBW.out.size)).trans (hw'.mono HBW.out.size)) hbl HC1.out
                go_simp
                with_reducible rfl
              simp only [Act.put, List.setIfInBounds_toArray, List.set_cons_zero, List.set_cons_succ]
              -- 3: slot 55
              refine wpG_take (preBelow (wr.heap.size)) (i := 3) (v := ?_) (by kernel_rfl) (some 55) (by kernel_rfl) rfl (by kernel_rfl) (by kernel_rfl) (by kernel_rfl) (fun _ _ _ h => h) (by rfl) (fun w' hw' => ?_) rfl ?_
              rotate_left
              · try have g0 := cellB' ((HBW.out.trans (HC.out.mono HBW.out.size)).trans (hw'.mono HBW.out.size)) hbl HC0.out
                try have g1 := cellB' ((HBW.out.trans (HC.out.mono HBW.out.size)).trans (hw'.mono HBW.out.size)) hbl HC1.out
                go_simp
                with_reducible rfl
              simp only [Act.put, List.setIfInBounds_toArray, List.set_cons_zero, List.set_cons_succ]
              -- 4: slot 56
              refine wpG_take (preBelow (wr.heap.size)) (i := 4) (v := ?_) (by kernel_rfl) (some 56) (by kernel_rfl) rfl (by kernel_rfl) (by kernel_rfl) (by kernel_rfl) (fun _ _ _ h => h) (by rfl) (fun w' hw' => ?_) rfl ?_
              rotate_left
              · try have g0 := cellB' ((HBW.out.trans (HC.out.mono HBW.out.size)).trans (hw'.mono HBW.out.size)) hbl HC0.out
                try have g1 := cellB' ((HBW.out.trans (HC.out.mono HBW.out.size)).trans (hw'.mono HBW.out.size)) hbl HC1.out
                go_simp
                with_reducible rfl
              simp only [Act.put, List.setIfInBounds_toArray, List.set_cons_zero, List.set_cons_succ]
              -- 5: slot 57
              refine wpG_take (preBelow (wr.heap.size)) (i := 5) (v := ?_) (by kernel_rfl) (some 57) (by kernel_rfl) rfl (by kernel_rfl) (by kernel_rfl) (by kernel_rfl) (fun _ _ _ h => h) (by rfl) (fun w' hw' => ?_) rfl ?_
              rotate_left
              · try have g0 := cellB' ((HBW.out.trans (HC.out.mono HBW.out.size)).trans (hw'.mono HBW.out.size)) hbl HC0.out
                try have g1 := cellB' ((HBW.out.trans (HC.out.mono HBW.out.size)).trans (hw'.mono HBW.out.size)) hbl HC1.out
                go_simp
                with_reducible rfl
              simp only [Act.put, List.setIfInBounds_toArray, List.set_cons_zero, List.set_cons_succ]
              -- 6: slot 58
              refine wpG_take (preBelow (wr.heap.size)) (i := 6) (v := ?_) (by kernel_rfl) (some 58) (by kernel_rfl) rfl (by kernel_rfl) (by kernel_rfl) (by kernel_rfl) (fun _ _ _ h => h) (by rfl) (fun w' hw' => ?_) rfl ?_
              rotate_left
              · try have g0 := cellB' ((HBW.out.trans (HC.out.mono HBW.out.size)).trans (hw'.mono HBW.out.size)) hbl HC0.out
                try have g1 := cellB' ((HBW.out.trans (HC.out.mono HBW.out.size)).trans (hw'.mono HBW.out.size)) hbl HC1.out
                go_simp
                with_reducible rfl
              simp only [Act.put, List.setIfInBounds_toArray, List.set_cons_zero, List.set_cons_succ]
              refine wpG_two (i := 0) (j := 7) rfl rfl (by kernel_rfl) (by rfl) (by rfl) ?_ ?_
              · go_simp
                refine ⟨(Below.refl _ _).alloc HC.out.size _, ?_⟩
                have hal : Gr wc (wc.alloc (.cells #[] 42)) := (Gr.refl _).alloc _
                obtain ⟨ge, hge⟩ : ∃ g, g = wc.heap.size := ⟨_, rfl⟩
                have HE : Hid ((wc.alloc (.cells #[] 42)).ownsRow wr.heap.size 42 2 (.slice (some ⟨ge, 0, none⟩) 0 0) 0 []) := by
                  show World.ownsRow _ _ _ _ _ _ _
                  rw [hge]
                  exact World.ownsRow_made _ _ _ HC.out.size (Nat.zero_le _) rfl
                try have HF : Hid (∀ k ∈ blk (.slice (some ⟨gx, 0, none⟩) 1 1), k ∉ blk (.slice (some ⟨ge, 0, none⟩) 0 0)) := by rw [hge]; exact far_new HX.out
                try have HX' := Lib.hid (ownsRow_below HX.out hal)
                try clear HX
                try (have HX := HX'; clear HX')
                have HC' : Hid (Below wr.heap.size wr (wc.alloc (.cells #[] 42))) := HC.out.alloc HC.out.size _
                clear HC hal
                rw [← hge]
                clear hge
                first
                  | generalize wc.alloc (.cells #[] 42) = wd at HC' HE HX ⊢
                  | generalize wc.alloc (.cells #[] 42) = wd at HC' HE ⊢
                have HC := HC'
                clear HC'
                obtain ⟨wc, hwc⟩ : ∃ x, x = wd := ⟨_, rfl⟩
                subst hwc
                try simp only [Act.put, List.setIfInBounds_toArray, List.set_cons_zero, List.set_cons_succ]
                refine wpG_two (i := 2) (j := 7) rfl rfl (by kernel_rfl) (by rfl) (by rfl) ?_ ?_
                · refine wp_append_where _ (some 54) (.tmp 52) (.tmp 53) 23 rfl wr.heap.size 42 i0 _ 2 32 Try.underlying23 hi hz0 hz1 hz2 rfl (by decide) (.slice (some ⟨ge, 0, none⟩) 0 0) 0 [] rfl HE.out lv us.length (flat us) rfl (HTRW.out.rd.below HC.out) (flat_one us wr fun x hx => ⟨_, HTRW.out.vals x hx⟩) (by omega) (by decide) HC.out.size rfl ?_
                  intro v2 wd ho2 hg2 hw2
                  have HV : Hid (wd.ownsRow wr.heap.size 42 2 v2 us.length (flat us)) := by show World.ownsRow _ _ _ _ _ _ _; simpa using ho2
                  try (have hh := far_grow HX.out HF.out hg2 hw2)
                  try clear HX HF
                  try (have HX := Lib.hid hh.1; have HF := Lib.hid hh.2; clear hh)
                  have hgb := grown_below HE.out HC.out.size hg2
                  have HC' : Hid (Below wr.heap.size wr wd) := HC.out.trans hgb
                  refine ⟨hgb, ?_⟩
                  clear ho2 hg2 hw2 hgb HC HE
                  have HC := HC'
                  clear HC'
                  obtain ⟨wc, hwc⟩ : ∃ x, x = wd := ⟨_, rfl⟩
                  subst hwc
                  try simp only [Act.put, List.setIfInBounds_toArray, List.set_cons_zero, List.set_cons_succ]
                  refine wpG_one (i := 7) rfl (by kernel_rfl) (by rfl) ?_
                  go_simp
                  refine ⟨(Below.refl _ _).alloc HC.out.size _, ?_⟩
                  have hal : Gr wc (wc.alloc (.cells #[.int .i64 T, .slice A L C] 42)) := (Gr.refl _).alloc _
                  obtain ⟨gx, hgx⟩ : ∃ g, g = wc.heap.size := ⟨_, rfl⟩
                  have HX : Hid ((wc.alloc (.cells #[.int .i64 T, .slice A L C] 42)).ownsRow wr.heap.size 42 2 (.slice (some ⟨gx, 0, none⟩) 1 1) 1 [.int .i64 T, .slice A L C]) := by
                    show World.ownsRow _ _ _ _ _ _ _
                    rw [hgx]
                    exact ownsRow_mono (own_new wc [.int .i64 T, .slice A L C] 42 1 2 rfl (by decide)) HC.out.size
                  try have HF : Hid (∀ k ∈ blk (.slice (some ⟨gx, 0, none⟩) 1 1), k ∉ blk (.slice (some ⟨ge, 0, none⟩) 0 0)) := by rw [hgx]; exact far_sym (far_new HE.out)
                  try have HF : Hid (∀ k ∈ blk (.slice (some ⟨gx, 0, none⟩) 1 1), k ∉ blk v2) := by rw [hgx]; exact far_sym (far_new HV.out)
                  try have HE' := Lib.hid (ownsRow_below HE.out hal)
                  try clear HE
                  try (have HE := HE'; clear HE')
                  try have HV' := Lib.hid (ownsRow_below HV.out hal)
                  try clear HV
                  try (have HV := HV'; clear HV')
                  have HC' : Hid (Below wr.heap.size wr (wc.alloc (.cells #[.int .i64 T, .slice A L C] 42))) := HC.out.alloc HC.out.size _
                  clear HC hal
                  rw [← hgx]
                  clear hgx
                  first
                    | generalize wc.alloc (.cells #[.int .i64 T, .slice A L C] 42) = wd at HC' HX HE ⊢
                    | generalize wc.alloc (.cells #[.int .i64 T, .slice A L C] 42) = wd at HC' HX HV ⊢
                    | generalize wc.alloc (.cells #[.int .i64 T, .slice A L C] 42) = wd at HC' HX ⊢
                  have HC := HC'
                  clear HC'
                  obtain ⟨wc, hwc⟩ : ∃ x, x = wd := ⟨_, rfl⟩
                  subst hwc
                  try simp only [Act.put, List.setIfInBounds_toArray, List.set_cons_zero, List.set_cons_succ]
                  refine wpG_one (i := 8) rfl (by kernel_rfl) (by rfl) ?_
                  refine wp_append_gr _ (some 60) (.tmp 54) (.tmp 59) 23 rfl wr.heap.size 42 i0 _ 2 32 Try.underlying23 hi hz0 hz1 hz2 rfl (by decide) _ _ _ rfl HV.out _ 1 _ rfl (own_rd HX.out) (one_tag T rfl) (by omega) (by decide) HC.out.size rfl ?_
                  intro v8 w8 ho8 hg8
                  have HO8 := Lib.hid ho8
                  have hgb := grown_below HV.out HC.out.size hg8
                  have HC8 : Hid (Below wr.heap.size wr w8) := HC.out.trans hgb
                  refine ⟨hgb, ?_⟩
                  clear ho8 hg8 hgb
                  try simp only [Act.put, List.setIfInBounds_toArray, List.set_cons_zero, List.set_cons_succ]
                  -- 9: slot 8
                  refine wpG_take (preBelow (wr.heap.size)) (i := 9) (v := ?_) (by kernel_rfl) (some 8) (by kernel_rfl) rfl (by kernel_rfl) (by kernel_rfl) (by kernel_rfl) (fun _ _ _ h => h) (by rfl) (fun w' hw' => ?_) rfl ?_
                  rotate_left
                  · try have g0 := cellB' ((HBW.out.trans (HC.out.mono HBW.out.size)).trans (hw'.mono HBW.out.size)) hbl HC0.out
                    try have g1 := cellB' ((HBW.out.trans (HC.out.mono HBW.out.size)).trans (hw'.mono HBW.out.size)) hbl HC1.out
                    go_simp
                    with_reducible rfl
                  simp only [Act.put, List.setIfInBounds_toArray, List.set_cons_zero, List.set_cons_succ]
                  refine wpG_done (by kernel_rfl) ?_ _
                  have HBW8 := Lib.hid (HBW.out.trans (HC8.out.mono HBW.out.size))
                  have HTR8 : Hid (TR w8 v8 (us ++ [(⟨T, .slice A L C, l⟩ : Tg)]).length (us ++ [⟨T, .slice A L C, l⟩])) := by
                    refine ⟨?_, fun x hx => ?_⟩
                    · rw [flat_append, List.length_append]
                      exact own_rd HO8.out
                    · rcases List.mem_append.1 hx with hx | hx
                      · exact (HTRW.out.vals x hx).below HC8.out
                      · rw [List.mem_singleton.1 hx]; exact HBS.out.below HBW8.out
                  go_wp2
                  go_roundw
                  case rel =>
                    have HY : plain (us ++ [(⟨T, .slice A L C, l⟩ : Tg)]) = (lrn (plain qs) 3 (plain ts)).1 ++ ((plain ts).take (i + 1)).filter (fun o => !hasT (plain qs) o.1) := by
                      rw [HSU.out, if_neg (by decide), plain_append, HUS.out, List.append_assoc]; rfl
                    have HZ : (us ++ [(⟨T, .slice A L C, l⟩ : Tg)]).length ≤ k + (i + 1) := by rw [List.length_append, List.length_singleton]; omega
                    first | exact ⟨i + 1, _, _, by omega, by go_num, rfl, HY, HZ, HTR8.out, HBW8.out⟩ | ((repeat apply Exists.intro); exact ⟨⟨i + 1, _, _, by omega, by go_num, rfl, HY, HZ, HTR8.out, HBW8.out⟩, rfl⟩)
                  case measure => simp [intOf]; omega
                · go_simp
                  refine ⟨(Below.refl _ _).alloc HC.out.size _, ?_⟩
                  have hal : Gr wc (wc.alloc (.cells #[.int .i64 T, .slice A L C] 42)) := (Gr.refl _).alloc _
                  obtain ⟨gx, hgx⟩ : ∃ g, g = wc.heap.size := ⟨_, rfl⟩
                  have HX : Hid ((wc.alloc (.cells #[.int .i64 T, .slice A L C] 42)).ownsRow wr.heap.size 42 2 (.slice (some ⟨gx, 0, none⟩) 1 1) 1 [.int .i64 T, .slice A L C]) := by
                    show World.ownsRow _ _ _ _ _ _ _
                    rw [hgx]
                    exact ownsRow_mono (own_new wc [.int .i64 T, .slice A L C] 42 1 2 rfl (by decide)) HC.out.size
                  try have HF : Hid (∀ k ∈ blk (.slice (some ⟨gx, 0, none⟩) 1 1), k ∉ blk (.slice (some ⟨ge, 0, none⟩) 0 0)) := by rw [hgx]; exact far_sym (far_new HE.out)
                  try have HF : Hid (∀ k ∈ blk (.slice (some ⟨gx, 0, none⟩) 1 1), k ∉ blk v2) := by rw [hgx]; exact far_sym (far_new HV.out)
                  try have HE' := Lib.hid (ownsRow_below HE.out hal)
                  try clear HE
                  try (have HE := HE'; clear HE')
                  try have HV' := Lib.hid (ownsRow_below HV.out hal)
                  try clear HV
                  try (have HV := HV'; clear HV')
                  have HC' : Hid (Below wr.heap.size wr (wc.alloc (.cells #[.int .i64 T, .slice A L C] 42))) := HC.out.alloc HC.out.size _
                  clear HC hal
                  rw [← hgx]
                  clear hgx
                  first
                    | generalize wc.alloc (.cells #[.int .i64 T, .slice A L C] 42) = wd at HC' HX HE ⊢
                    | generalize wc.alloc (.cells #[.int .i64 T, .slice A L C] 42) = wd at HC' HX HV ⊢
                    | generalize wc.alloc (.cells #[.int .i64 T, .slice A L C] 42) = wd at HC' HX ⊢
                  have HC := HC'
                  clear HC'
                  obtain ⟨wc, hwc⟩ : ∃ x, x = wd := ⟨_, rfl⟩
                  subst hwc
                  try simp only [Act.put, List.setIfInBounds_toArray, List.set_cons_zero, List.set_cons_succ]
                  refine wpG_one (i := 2) rfl (by kernel_rfl) (by rfl) ?_
                  refine wp_append_where _ (some 54) (.tmp 52) (.tmp 53) 23 rfl wr.heap.size 42 i0 _ 2 32 Try.underlying23 hi hz0 hz1 hz2 rfl (by decide) (.slice (some ⟨ge, 0, none⟩) 0 0) 0 [] rfl HE.out lv us.length (flat us) rfl (HTRW.out.rd.below HC.out) (flat_one us wr fun x hx => ⟨_, HTRW.out.vals x hx⟩) (by omega) (by decide) HC.out.size rfl ?_
                  intro v2 wd ho2 hg2 hw2
                  have HV : Hid (wd.ownsRow wr.heap.size 42 2 v2 us.length (flat us)) := by show World.ownsRow _ _ _ _ _ _ _; simpa using ho2
                  try (have hh := far_grow HX.out HF.out hg2 hw2)
                  try clear HX HF
                  try (have HX := Lib.hid hh.1; have HF := Lib.hid hh.2; clear hh)
                  have hgb := grown_below HE.out HC.out.size hg2
                  have HC' : Hid (Below wr.heap.size wr wd) := HC.out.trans hgb
                  refine ⟨hgb, ?_⟩
                  clear ho2 hg2 hw2 hgb HC HE
                  have HC := HC'
                  clear HC'
                  obtain ⟨wc, hwc⟩ : ∃ x, x = wd := ⟨_, rfl⟩
                  subst hwc
                  try simp only [Act.put, List.setIfInBounds_toArray, List.set_cons_zero, List.set_cons_succ]
                  refine wpG_one (i := 8) rfl (by kernel_rfl) (by rfl) ?_
                  refine wp_append_gr _ (some 60) (.tmp 54) (.tmp 59) 23 rfl wr.heap.size 42 i0 _ 2 32 Try.underlying23 hi hz0 hz1 hz2 rfl (by decide) _ _ _ rfl HV.out _ 1 _ rfl (own_rd HX.out) (one_tag T rfl) (by omega) (by decide) HC.out.size rfl ?_
                  intro v8 w8 ho8 hg8
                  have HO8 := Lib.hid ho8
                  have hgb := grown_below HV.out HC.out.size hg8
                  have HC8 : Hid (Below wr.heap.size wr w8) := HC.out.trans hgb
                  refine ⟨hgb, ?_⟩
                  clear ho8 hg8 hgb
                  try simp only [Act.put, List.setIfInBounds_toArray, List.set_cons_zero, List.set_cons_succ]
                  -- 9: slot 8
                  refine wpG_take (preBelow (wr.heap.size)) (i := 9) (v := ?_) (by kernel_rfl) (some 8) (by kernel_rfl) rfl (by kernel_rfl) (by kernel_rfl) (by kernel_rfl) (fun _ _ _ h => h) (by rfl) (fun w' hw' => ?_) rfl ?_
                  rotate_left
                  · try have g0 := cellB' ((HBW.out.trans (HC.out.mono HBW.out.size)).trans (hw'.mono HBW.out.size)) hbl HC0.out
                    try have g1 := cellB' ((HBW.out.trans (HC.out.mono HBW.out.size)).trans (hw'.mono HBW.out.size)) hbl HC1.out
                    go_simp
                    with_reducible rfl
                  simp only [Act.put, List.setIfInBounds_toArray, List.set_cons_zero, List.set_cons_succ]
                  refine wpG_done (by kernel_rfl) ?_ _
                  have HBW8 := Lib.hid (HBW.out.trans (HC8.out.mono HBW.out.size))
                  have HTR8 : Hid (TR w8 v8 (us ++ [(⟨T, .slice A L C, l⟩ : Tg)]).length (us ++ [⟨T, .slice A L C, l⟩])) := by
                    refine ⟨?_, fun x hx => ?_⟩
                    · rw [flat_append, List.length_append]
                      exact own_rd HO8.out
                    · rcases List.mem_append.1 hx with hx | hx
                      · exact (HTRW.out.vals x hx).below HC8.out
                      · rw [List.mem_singleton.1 hx]; exact HBS.out.below HBW8.out
                  go_wp2
                  go_roundw
                  case rel =>
                    have HY : plain (us ++ [(⟨T, .slice A L C, l⟩ : Tg)]) = (lrn (plain qs) 3 (plain ts)).1 ++ ((plain ts).take (i + 1)).filter (fun o => !hasT (plain qs) o.1) := by
                      rw [HSU.out, if_neg (by decide), plain_append, HUS.out, List.append_assoc]; rfl
                    have HZ : (us ++ [(⟨T, .slice A L C, l⟩ : Tg)]).length ≤ k + (i + 1) := by rw [List.length_append, List.length_singleton]; omega
                    first | exact ⟨i + 1, _, _, by omega, by go_num, rfl, HY, HZ, HTR8.out, HBW8.out⟩ | ((repeat apply Exists.intro); exact ⟨⟨i + 1, _, _, by omega, by go_num, rfl, HY, HZ, HTR8.out, HBW8.out⟩, rfl⟩)
                  case measure => simp [intOf]; omega
              · go_simp
                refine ⟨(Below.refl _ _).alloc HC.out.size _, ?_⟩
                have hal : Gr wc (wc.alloc (.cells #[.int .i64 T, .slice A L C] 42)) := (Gr.refl _).alloc _
                obtain ⟨gx, hgx⟩ : ∃ g, g = wc.heap.size := ⟨_, rfl⟩
                have HX : Hid ((wc.alloc (.cells #[.int .i64 T, .slice A L C] 42)).ownsRow wr.heap.size 42 2 (.slice (some ⟨gx, 0, none⟩) 1 1) 1 [.int .i64 T, .slice A L C]) := by
                  show World.ownsRow _ _ _ _ _ _ _
                  rw [hgx]
                  exact ownsRow_mono (own_new wc [.int .i64 T, .slice A L C] 42 1 2 rfl (by decide)) HC.out.size
                try have HF : Hid (∀ k ∈ blk (.slice (some ⟨gx, 0, none⟩) 1 1), k ∉ blk (.slice (some ⟨ge, 0, none⟩) 0 0)) := by rw [hgx]; exact far_sym (far_new HE.out)
                try have HF : Hid (∀ k ∈ blk (.slice (some ⟨gx, 0, none⟩) 1 1), k ∉ blk v2) := by rw [hgx]; exact far_sym (far_new HV.out)
                try have HE' := Lib.hid (ownsRow_below HE.out hal)
                try clear HE
                try (have HE := HE'; clear HE')
                try have HV' := Lib.hid (ownsRow_below HV.out hal)
                try clear HV
                try (have HV := HV'; clear HV')
                have HC' : Hid (Below wr.heap.size wr (wc.alloc (.cells #[.int .i64 T, .slice A L C] 42))) := HC.out.alloc HC.out.size _
                clear HC hal
                rw [← hgx]
                clear hgx
                first
                  | generalize wc.alloc (.cells #[.int .i64 T, .slice A L C] 42) = wd at HC' HX HE ⊢
                  | generalize wc.alloc (.cells #[.int .i64 T, .slice A L C] 42) = wd at HC' HX HV ⊢
                  | generalize wc.alloc (.cells #[.int .i64 T, .slice A L C] 42) = wd at HC' HX ⊢
                have HC := HC'
                clear HC'
                obtain ⟨wc, hwc⟩ : ∃ x, x = wd := ⟨_, rfl⟩
                subst hwc
                try simp only [Act.put, List.setIfInBounds_toArray, List.set_cons_zero, List.set_cons_succ]
                refine wpG_one (i := 0) rfl (by kernel_rfl) (by rfl) ?_
                go_simp
                refine ⟨(Below.refl _ _).alloc HC.out.size _, ?_⟩
                have hal : Gr wc (wc.alloc (.cells #[] 42)) := (Gr.refl _).alloc _
                obtain ⟨ge, hge⟩ : ∃ g, g = wc.heap.size := ⟨_, rfl⟩
                have HE : Hid ((wc.alloc (.cells #[] 42)).ownsRow wr.heap.size 42 2 (.slice (some ⟨ge, 0, none⟩) 0 0) 0 []) := by
                  show World.ownsRow _ _ _ _ _ _ _
                  rw [hge]
                  exact World.ownsRow_made _ _ _ HC.out.size (Nat.zero_le _) rfl
                try have HF : Hid (∀ k ∈ blk (.slice (some ⟨gx, 0, none⟩) 1 1), k ∉ blk (.slice (some ⟨ge, 0, none⟩) 0 0)) := by rw [hge]; exact far_new HX.out
                try have HX' := Lib.hid (ownsRow_below HX.out hal)
                try clear HX
                try (have HX := HX'; clear HX')
                have HC' : Hid (Below wr.heap.size wr (wc.alloc (.cells #[] 42))) := HC.out.alloc HC.out.size _
                clear HC hal
                rw [← hge]
                clear hge
                first
                  | generalize wc.alloc (.cells #[] 42) = wd at HC' HE HX ⊢
                  | generalize wc.alloc (.cells #[] 42) = wd at HC' HE ⊢
                have HC := HC'
                clear HC'
                obtain ⟨wc, hwc⟩ : ∃ x, x = wd := ⟨_, rfl⟩
                subst hwc
                try simp only [Act.put, List.setIfInBounds_toArray, List.set_cons_zero, List.set_cons_succ]
                refine wpG_one (i := 2) rfl (by kernel_rfl) (by rfl) ?_
                refine wp_append_where _ (some 54) (.tmp 52) (.tmp 53) 23 rfl wr.heap.size 42 i0 _ 2 32 Try.underlying23 hi hz0 hz1 hz2 rfl (by decide) (.slice (some ⟨ge, 0, none⟩) 0 0) 0 [] rfl HE.out lv us.length (flat us) rfl (HTRW.out.rd.below HC.out) (flat_one us wr fun x hx => ⟨_, HTRW.out.vals x hx⟩) (by omega) (by decide) HC.out.size rfl ?_
                intro v2 wd ho2 hg2 hw2
                have HV : Hid (wd.ownsRow wr.heap.size 42 2 v2 us.length (flat us)) := by show World.ownsRow _ _ _ _ _ _ _; simpa using ho2
                try (have hh := far_grow HX.out HF.out hg2 hw2)
                try clear HX HF
                try (have HX := Lib.hid hh.1; have HF := Lib.hid hh.2; clear hh)
                have hgb := grown_below HE.out HC.out.size hg2
                have HC' : Hid (Below wr.heap.size wr wd) := HC.out.trans hgb
                refine ⟨hgb, ?_⟩
                clear ho2 hg2 hw2 hgb HC HE
                have HC := HC'
                clear HC'
                obtain ⟨wc, hwc⟩ : ∃ x, x = wd := ⟨_, rfl⟩
                subst hwc
                try simp only [Act.put, List.setIfInBounds_toArray, List.set_cons_zero, List.set_cons_succ]
                refine wpG_one (i := 8) rfl (by kernel_rfl) (by rfl) ?_
                refine wp_append_gr _ (some 60) (.tmp 54) (.tmp 59) 23 rfl wr.heap.size 42 i0 _ 2 32 Try.underlying23 hi hz0 hz1 hz2 rfl (by decide) _ _ _ rfl HV.out _ 1 _ rfl (own_rd HX.out) (one_tag T rfl) (by omega) (by decide) HC.out.size rfl ?_
                intro v8 w8 ho8 hg8
                have HO8 := Lib.hid ho8
                have hgb := grown_below HV.out HC.out.size hg8
                have HC8 : Hid (Below wr.heap.size wr w8) := HC.out.trans hgb
                refine ⟨hgb, ?_⟩
                clear ho8 hg8 hgb
                try simp only [Act.put, List.setIfInBounds_toArray, List.set_cons_zero, List.set_cons_succ]
                -- 9: slot 8
                refine wpG_take (preBelow (wr.heap.size)) (i := 9) (v := ?_) (by kernel_rfl) (some 8) (by kernel_rfl) rfl (by kernel_rfl) (by kernel_rfl) (by kernel_rfl) (fun _ _ _ h => h) (by rfl) (fun w' hw' => ?_) rfl ?_
                rotate_left
                · try have g0 := cellB' ((HBW.out.trans (HC.out.mono HBW.out.size)).trans (hw'.mono HBW.out.size)) hbl HC0.out
                  try have g1 := cellB' ((HBW.out.trans (HC.out.mono HBW.out.size)).trans (hw'.mono HBW.out.size)) hbl HC1.out
                  go_simp
                  with_reducible rfl
                simp only [Act.put, List.setIfInBounds_toArray, List.set_cons_zero, List.set_cons_succ]
                refine wpG_done (by kernel_rfl) ?_ _
                have HBW8 := Lib.hid (HBW.out.trans (HC8.out.mono HBW.out.size))
                have HTR8 : Hid (TR w8 v8 (us ++ [(⟨T, .slice A L C, l⟩ : Tg)]).length (us ++ [⟨T, .slice A L C, l⟩])) := by
                  refine ⟨?_, fun x hx => ?_⟩
                  · rw [flat_append, List.length_append]
                    exact own_rd HO8.out
                  · rcases List.mem_append.1 hx with hx | hx
                    · exact (HTRW.out.vals x hx).below HC8.out
                    · rw [List.mem_singleton.1 hx]; exact HBS.out.below HBW8.out
                go_wp2
                go_roundw
                case rel =>
                  have HY : plain (us ++ [(⟨T, .slice A L C, l⟩ : Tg)]) = (lrn (plain qs) 3 (plain ts)).1 ++ ((plain ts).take (i + 1)).filter (fun o => !hasT (plain qs) o.1) := by
                    rw [HSU.out, if_neg (by decide), plain_append, HUS.out, List.append_assoc]; rfl
                  have HZ : (us ++ [(⟨T, .slice A L C, l⟩ : Tg)]).length ≤ k + (i + 1) := by rw [List.length_append, List.length_singleton]; omega
                  first | exact ⟨i + 1, _, _, by omega, by go_num, rfl, HY, HZ, HTR8.out, HBW8.out⟩ | ((repeat apply Exists.intro); exact ⟨⟨i + 1, _, _, by omega, by go_num, rfl, HY, HZ, HTR8.out, HBW8.out⟩, rfl⟩)
                case measure => simp [intOf]; omega
      · obtain rfl : i = ln := by omega
        have HF : Hid (fol (plain qs) 3 (plain ts) = (plain us, B)) := by
          show _ = _
          unfold fol
          rw [if_pos rfl, HUS.out, List.take_of_length_le (by rw [plain_length]; omega), HBB.out]
        obtain ⟨a', c', ev, _, _⟩ := HTR.out.shape
        subst ev
        go_wp2
        go_ret2
        exact FRes.of _ B a' us.length c' us HF.out rfl HTR.out HB.out
  · have h3b : (code != 3) = true := by simpa using h3
    have HF : Hid (fol (plain qs) code (plain ts) = (plain us5, B)) := by
      show _ = _
      unfold fol
      rw [if_neg h3, HP5.out, HBB.out]
    clear h3
    go_wp2
    go_ret2
    exact FRes.of _ B x5 N5 y5 us5 HF.out rfl HT5.out HB5.out
end Go.Proofs.Ytbldcjngccmhpaa.Ng
