/-
  The document's Learn.
-/
import Derived.Test.YtbldcjngccmhpaaNgS
import Derived.Test.YtbldcjngccmhpaaNgN
namespace Go.Proofs.Ytbldcjngccmhpaa.Ng
open Go.RowKit O
set_option linter.unusedVariables false
set_option linter.unusedSimpArgs false
theorem takeOver_nil (o : PT) : takeOver [] o = o := rfl
theorem takeOver_cons (x : PT) (l : List PT) (o : PT) : takeOver (x :: l) o = if x.1 = o.1 then (o.1, x.2) else takeOver l o := by
  unfold takeOver
  rw [List.find?_cons]
  by_cases h : x.1 = o.1
  · rw [decide_eq_true h, if_pos h]
  · rw [decide_eq_false h, if_neg h]
/-- What the document's Learn tells. -/
def RLRes (x : List PT × Bool) (w : World) (e : Ending) (w' : World) : Prop := ∃ a m c us, e = .returned (.tuple #[.slice a m c, .bool x.2]) ∧ plain us = x.1 ∧ TR w' (.slice a m c) m us ∧ Below w.heap.size w w'
theorem RLRes.of {x : List PT × Bool} {w w' : World} (l : List PT) (b : Bool) (a : Option Addr) (m c : Nat) (us : List Tg) (h : x = (l, b)) (h1 : plain us = l) (h2 : TR w' (.slice a m c) m us) (h3 : Below w.heap.size w w') : RLRes x w (.returned (.tuple #[.slice a m c, .bool b])) w' := by
  subst h
  exact ⟨a, m, c, us, rfl, h1, h2, h3⟩
theorem RO.only {w0 w w' : World} {base g : Nat} {v : Value} {l : List PT} (h : RO w0 w base v l) (ho : Only g w w') (hg : ∀ k ∈ blk v, k ≠ g) : RO w0 w' base v l := by
  obtain ⟨R, h1, h2, h3⟩ := h
  exact ⟨R, h1, own_keepW h2 fun k hk => ho.heap k (own_blk h2 k hk).2 (hg k hk), h3⟩
theorem RO.blkLt {w0 w : World} {base : Nat} {v : Value} {l : List PT} (h : RO w0 w base v l) : ∀ k ∈ blk v, k < w.heap.size := by
  obtain ⟨R, h1, h2, h3⟩ := h
  exact fun k hk => (own_blk h2 k hk).2
theorem RO.tr {w w' : World} {base : Nat} {v : Value} {l : List PT} (h : RO w w' base v l) (hb : Below w.heap.size w w') : ∃ a m c us, v = .slice a m c ∧ plain us = l ∧ TR w' (.slice a m c) m us := by
  obtain ⟨R, h1, h2, h3⟩ := h
  obtain ⟨a, c, rfl, _, _⟩ := (own_rd h2).shape
  exact ⟨a, R.length, c, R, rfl, h1, own_rd h2, fun x hx => (h3 x hx).below hb⟩
/-- One option more. -/
theorem RO.more {w0 w2 : World} {base : Nat} {v' : Value} {l : List PT} {R : List Tg} {t : Tg} (hR : plain R = l) (hv : ∀ t ∈ R, Bs w0 t.val t.l) (ht : Bs w0 t.val t.l) (ho : w2.ownsRow base 42 2 v' (l.length + 1) (flat R ++ [.int .i64 t.typ, t.val])) : RO w0 w2 base v' (l ++ [t.plain]) := by
  refine ⟨R ++ [t], by rw [plain_append, hR]; rfl, ?_, fun x hx => ?_⟩
  · have e : (R ++ [t]).length = l.length + 1 := by rw [List.length_append, ← hR, plain_length]; rfl
    rw [e, flat_append]
    exact ho
  · rcases List.mem_append.1 hx with hx | hx
    · exact hv x hx
    · rw [List.mem_singleton.1 hx]; exact ht

set_option maxRecDepth 20000 in
set_option maxHeartbeats 8000000 in
theorem rlearn_any (ao : Option Addr) (n c : Nat) (qs : List Tg) (code : Int) (la : Option Addr) (ln lc : Nat) (ts : List Tg) (w : World) (hra : TR w (.slice ao n c) n qs) (hrt : TR w (.slice la ln lc) ln ts) (hn : n ≤ 1000) (hln : ln ≤ 1000) :
    Calls Try.prog 18 #[.slice ao n c, .int .i64 code, .slice la ln lc] w (RLRes (lrn (plain qs) code (plain ts)) w) := by
  obtain ⟨i0, hi, hz0, hz1, hz2⟩ := info_parts infoT
  have hl := hra.len
  have hl2 := hrt.len
  have HRA := Lib.hid hra
  have HRT := Lib.hid hrt
  clear hra hrt
  by_cases h0 : ln = 0
  · subst h0
    have HN : Hid (lrn (plain qs) code (plain ts) = (plain qs, false)) := lrn_none (.inl (plain_nil_iff.2 hl2))
    go_enter Try.func18, Try.ntmps18
    go_wp2
    go_ret2
    exact RLRes.of _ false ao n c qs HN.out rfl HRA.out (Below.refl _ _)
  have h0b : ((ln : Int) == 0) = false := by simpa using h0
  have h0z : ¬ (ln : Int) = 0 := by omega
  have HNE : Hid (plain ts ≠ []) := fun e => h0 (by rw [← hl2]; exact plain_nil_iff.1 e)
  clear h0
  by_cases h3 : code = 3
  · subst h3
    have HLR := Lib.hid (lrn_nak (q := plain qs) HNE.out)
    go_enter Try.func18, Try.ntmps18
    go_wp2
    go_loopw [8, 9] (fun s8 iv wr => ∃ (i : Nat) (lv : Value), i ≤ n ∧ iv = .int .i64 (i : Int) ∧ lv = s8 ∧ RO w wr w.heap.size lv (((plain qs).take i).map (takeOver (plain ts))) ∧ Below w.heap.size w wr) (fun _ iv _ => n - (intOf iv).toNat)
    case atStart => exact ⟨0, _, Nat.zero_le _, rfl, rfl, ⟨[], rfl, World.ownsRow_nil _ _ _ _, fun t h => by cases h⟩, Below.refl _ _⟩
    case round =>
      obtain ⟨i, lv, hin, rfl, rfl, hro, hb⟩ := hrel
      have HRO := Lib.hid hro
      have HB := Lib.hid hb
      clear hro hb
      by_cases hlt : i < n
      · obtain ⟨b, o, rfl, hbl, hc⟩ := HRA.out.cells (by omega)
        obtain ⟨hc0, hc1⟩ := hc i (by omega)
        have HV := Lib.hid (HRA.out.val i (by omega))
        obtain ⟨A, L, C, hv, hL, hLC, hCm⟩ := HV.out.sl
        rw [hv] at hc1
        obtain ⟨T, hT⟩ : ∃ T, T = qs[i].typ := ⟨_, rfl⟩
        rw [← hT] at hc0
        obtain ⟨l, hlq⟩ : ∃ l, l = qs[i].l := ⟨_, rfl⟩
        have HBS : Hid (Bs w (.slice A L C) l) := by show Bs _ _ _; rw [hlq, ← hv]; exact HV.out
        have HTK : Hid (((plain qs).take (i + 1)).map (takeOver (plain ts)) = ((plain qs).take i).map (takeOver (plain ts)) ++ [takeOver (plain ts) (T, l)]) := by
          show _ = _
          rw [List.take_succ_eq_append_getElem (by rw [plain_length]; omega), plain_get _ _ (by omega), List.map_append, hT, hlq]
          rfl
        have k0 := cellB' HB.out hbl hc0
        have k1 := cellB' HB.out hbl hc1
        obtain ⟨wA, hwA⟩ : ∃ x, x = wr := ⟨_, rfl⟩
        subst hwA
        obtain ⟨g, hg⟩ : ∃ g, g = wA.heap.size := ⟨_, rfl⟩
        have hal : Gr wA (wA.alloc (.cells #[.int .i64 T, .slice A L C] 42)) := (Gr.refl _).alloc _
        have HB1 := Lib.hid (HB.out.trans (Below.mono hal HB.out.size))
        have HRO1 := Lib.hid (HRO.out.gr hal)
        have HG1 : Hid ((wA.alloc (.cells #[.int .i64 T, .slice A L C] 42)).heap[g]? = some (.cells #[.int .i64 T, .slice A L C] 42)) := by show _ = _; rw [hg]; exact heap_alloc_last _ _
        have HNG : Hid (∀ k ∈ blk lv, k ≠ g) := fun k hk => by have := HRO.out.blkLt k hk; omega
        have HGB : Hid (w.heap.size ≤ g) := by show _ ≤ _; rw [hg]; exact HB.out.size
        have hin2 : (i : Int) < (n : Int) := by omega
        clear hv hL hT hc hc0 hc1 hlq hal
        go_upto_region 9 with fail
        rw [← hg]
        generalize wA.alloc (.cells #[.int .i64 T, .slice A L C] 42) = wB at HB1 HRO1 HG1 ⊢
        clear k0 k1 HRO HB hg
        go_wp2
        go_loopw [11] (fun jv wr => ∃ (m : Nat) (z : Int) (dA : Option Addr) (dL dC : Nat) (dl : List UInt8), jv = .int .i64 z ∧ z + 1 = (m : Int) ∧ m ≤ ln ∧ wr.heap[g]? = some (.cells #[.int .i64 T, .slice dA dL dC] 42) ∧ Hid (Bs w (.slice dA dL dC) dl) ∧ Hid ((T, dl) = takeOver (plain (ts.drop m)) (T, l)) ∧ Only g wB wr) (fun jv _ => (intOf jv + 1).toNat)
        case atStart => exact ⟨ln, (ln : Int) - 1, A, L, C, l, by go_num, by omega, Nat.le_refl _, HG1.out, HBS, by show _ = _; rw [List.drop_of_length_le (by omega)]; rfl, Only.refl _ _⟩
        case round =>
          obtain ⟨m, z, dA, dL, dC, dl, rfl, hz, hmn, hg, HDB, HDT, hon⟩ := hrel
          have HG := Lib.hid hg
          have HON := Lib.hid hon
          have HBW : Hid (Below w.heap.size w wr) := hon.below _ _ HGB.out HB1.out
          clear hg hon
          obtain ⟨q0, q1⟩ := copy_cells HG.out
          by_cases hm : m = 0
          · subst hm
            obtain rfl : z = -1 := by omega
            have HRO2 := Lib.hid (HRO1.out.only HON.out HNG.out)
            obtain ⟨R, hR, hRl, hRo, hRv⟩ := HRO2.out.own
            have HRP := Lib.hid hR
            have HRV := Lib.hid hRv
            have hal : Gr wr (wr.alloc (.cells #[.int .i64 T, .slice dA dL dC] 42)) := (Gr.refl _).alloc _
            obtain ⟨M, hM⟩ : ∃ M, M = (((plain qs).take i).map (takeOver (plain ts))).length := ⟨_, rfl⟩
            have hM1 : M ≤ 1000 := by rw [hM, List.length_map, List.length_take]; omega
            rw [← hM] at hRo
            have HMM := Lib.hid hM
            have HRo4 := Lib.hid (ownsRow_below hRo hal)
            have HB4 := Lib.hid (HBW.out.trans (Below.mono hal HBW.out.size))
            have HRD := Lib.hid (rd_new wr [.int .i64 T, .slice dA dL dC] 42 1 2 rfl (by decide))
            clear hR hRl hRo hRv hal hM hz
            go_wp2_with (at_builtin; refine wpList_append_gr _ rfl (.tmp 59) (.tmp 61) 23 rfl w.heap.size 42 i0 _ 2 32 Try.underlying23 hi hz0 hz1 hz2 rfl (by decide) _ M _ rfl HRo4.out _ 1 _ rfl HRD.out (one_tag T rfl) ?p4 (by decide) HB4.out.size ?_)
            case p4 => omega
            intro vR w5 ho5 hg5
            have HRO5 : Hid (RO w w5 w.heap.size vR (((plain qs).take (i + 1)).map (takeOver (plain ts)))) := by
              show RO _ _ _ _ _
              rw [HTK.out]
              have e : takeOver (plain ts) (T, l) = (T, dl) := by have := HDT.out; rw [List.drop_zero] at this; exact this.symm
              rw [e]
              exact RO.more (t := ⟨T, .slice dA dL dC, dl⟩) HRP.out HRV.out HDB.out (by rw [← HMM.out]; exact ho5)
            have HB5 := Lib.hid (HB4.out.trans (grown_below HRo4.out HB4.out.size hg5))
            clear ho5 hg5
            go_wp2
            go_roundw
            case rel =>
              first | exact ⟨i + 1, _, by omega, by go_num, rfl, HRO5.out, HB5.out⟩ | ((repeat apply Exists.intro); exact ⟨⟨i + 1, _, by omega, by go_num, rfl, HRO5.out, HB5.out⟩, rfl⟩)
            case measure => simp [intOf]; omega
          · obtain ⟨k, rfl⟩ : ∃ k, m = k + 1 := ⟨m - 1, by omega⟩
            obtain rfl : z = (k : Int) := by omega
            have hk : k < ts.length := by omega
            obtain ⟨b2, o2, ea, hbl2, hcel⟩ := HRT.out.cells (by omega)
            subst ea
            obtain ⟨c0, c1⟩ := hcel k hk
            have HV2 := Lib.hid (HRT.out.val k hk)
            obtain ⟨A2, L2, C2, hv2, _, _, _⟩ := HV2.out.sl
            rw [hv2] at c1
            obtain ⟨U, hU⟩ : ∃ U, U = ts[k].typ := ⟨_, rfl⟩
            obtain ⟨ul, hul⟩ : ∃ l, l = ts[k].l := ⟨_, rfl⟩
            rw [← hU] at c0
            have HUB : Hid (Bs w (.slice A2 L2 C2) ul) := by show Bs _ _ _; rw [hul, ← hv2]; exact HV2.out
            have HDR : Hid (takeOver (plain (ts.drop k)) (T, l) = if U = T then (T, ul) else takeOver (plain (ts.drop (k + 1))) (T, l)) := by
              show _ = _
              rw [List.drop_eq_getElem_cons hk]
              show takeOver (ts[k].plain :: plain (ts.drop (k + 1))) (T, l) = _
              rw [takeOver_cons, hU, hul]
              rfl
            have HC0 := Lib.hid c0
            have HC1 := Lib.hid c1
            have hkl : k < ln := by omega
            have hkl2 : (k : Int) < (ln : Int) := by omega
            have hk0 : (0 : Int) ≤ (k : Int) := by omega
            clear hcel hv2 hU hul c0 c1 hz hm q0 q1
            by_cases ht : U = T
            · have hte : (U == T) = true := by simpa using ht
              rw [if_pos ht] at HDR
              clear ht
              go_upto_region 12 with fail
              refine wp_region_G 8 Gr (by kernel_rfl) ?_
              -- 0: slot 45
              refine wpG_take preGr (i := 0) (v := ?_) (by kernel_rfl) (some 45) (by kernel_rfl) rfl (by kernel_rfl) (by kernel_rfl) (by kernel_rfl) (fun _ _ _ h => h) (by rfl) (fun w' hw' => ?_) rfl ?_
              rotate_left
              · try have g0 := cellB' (HBW.out.drew.trans (hw'.mono HBW.out.size)) hbl2 HC0.out
                try have g1 := (copy_cells (heap_gr ((Gr.drew wr).trans hw') HG.out)).1
                go_simp
                with_reducible rfl
              simp only [Act.put, List.setIfInBounds_toArray, List.set_cons_zero, List.set_cons_succ]
              -- 1: slot 46
              refine wpG_take preGr (i := 1) (v := ?_) (by kernel_rfl) (some 46) (by kernel_rfl) rfl (by kernel_rfl) (by kernel_rfl) (by kernel_rfl) (fun _ _ _ h => h) (by rfl) (fun w' hw' => ?_) rfl ?_
              rotate_left
              · try have g0 := cellB' (HBW.out.drew.trans (hw'.mono HBW.out.size)) hbl2 HC0.out
                try have g1 := (copy_cells (heap_gr ((Gr.drew wr).trans hw') HG.out)).1
                go_simp
                with_reducible rfl
              simp only [Act.put, List.setIfInBounds_toArray, List.set_cons_zero, List.set_cons_succ]
              -- 2: slot 47
              refine wpG_take preGr (i := 2) (v := ?_) (by kernel_rfl) (some 47) (by kernel_rfl) rfl (by kernel_rfl) (by kernel_rfl) (by kernel_rfl) (fun _ _ _ h => h) (by rfl) (fun w' hw' => ?_) rfl ?_
              rotate_left
              · try have g0 := cellB' (HBW.out.drew.trans (hw'.mono HBW.out.size)) hbl2 HC0.out
                try have g1 := (copy_cells (heap_gr ((Gr.drew wr).trans hw') HG.out)).1
                go_simp
                with_reducible rfl
              simp only [Act.put, List.setIfInBounds_toArray, List.set_cons_zero, List.set_cons_succ]
              -- 3: slot 48
              refine wpG_take preGr (i := 3) (v := ?_) (by kernel_rfl) (some 48) (by kernel_rfl) rfl (by kernel_rfl) (by kernel_rfl) (by kernel_rfl) (fun _ _ _ h => h) (by rfl) (fun w' hw' => ?_) rfl ?_
              rotate_left
              · try have g0 := cellB' (HBW.out.drew.trans (hw'.mono HBW.out.size)) hbl2 HC0.out
                try have g1 := (copy_cells (heap_gr ((Gr.drew wr).trans hw') HG.out)).1
                go_simp
                with_reducible rfl
              simp only [Act.put, List.setIfInBounds_toArray, List.set_cons_zero, List.set_cons_succ]
              -- 4: slot 49
              refine wpG_take preGr (i := 4) (v := ?_) (by kernel_rfl) (some 49) (by kernel_rfl) rfl (by kernel_rfl) (by kernel_rfl) (by kernel_rfl) (fun _ _ _ h => h) (by rfl) (fun w' hw' => ?_) rfl ?_
              rotate_left
              · try have g0 := cellB' (HBW.out.drew.trans (hw'.mono HBW.out.size)) hbl2 HC0.out
                try have g1 := (copy_cells (heap_gr ((Gr.drew wr).trans hw') HG.out)).1
                go_simp
                with_reducible rfl
              simp only [Act.put, List.setIfInBounds_toArray, List.set_cons_zero, List.set_cons_succ]
              -- 5: slot 50
              refine wpG_take preGr (i := 5) (v := ?_) (by kernel_rfl) (some 50) (by kernel_rfl) rfl (by kernel_rfl) (by kernel_rfl) (by kernel_rfl) (fun _ _ _ h => h) (by rfl) (fun w' hw' => ?_) rfl ?_
              rotate_left
              · try have g0 := cellB' (HBW.out.drew.trans (hw'.mono HBW.out.size)) hbl2 HC0.out
                try have g1 := (copy_cells (heap_gr ((Gr.drew wr).trans hw') HG.out)).1
                go_simp
                with_reducible rfl
              simp only [Act.put, List.setIfInBounds_toArray, List.set_cons_zero, List.set_cons_succ]
              -- 6: slot 51
              refine wpG_take preGr (i := 6) (v := ?_) (by kernel_rfl) (some 51) (by kernel_rfl) rfl (by kernel_rfl) (by kernel_rfl) (by kernel_rfl) (fun _ _ _ h => h) (by rfl) (fun w' hw' => ?_) rfl ?_
              rotate_left
              · try have g0 := cellB' (HBW.out.drew.trans (hw'.mono HBW.out.size)) hbl2 HC0.out
                try have g1 := (copy_cells (heap_gr ((Gr.drew wr).trans hw') HG.out)).1
                go_simp
                with_reducible rfl
              simp only [Act.put, List.setIfInBounds_toArray, List.set_cons_zero, List.set_cons_succ]
              -- 7: slot 52
              refine wpG_take preGr (i := 7) (v := ?_) (by kernel_rfl) (some 52) (by kernel_rfl) rfl (by kernel_rfl) (by kernel_rfl) (by kernel_rfl) (fun _ _ _ h => h) (by rfl) (fun w' hw' => ?_) rfl ?_
              rotate_left
              · try have g0 := cellB' (HBW.out.drew.trans (hw'.mono HBW.out.size)) hbl2 HC0.out
                try have g1 := (copy_cells (heap_gr ((Gr.drew wr).trans hw') HG.out)).1
                go_simp
                with_reducible rfl
              simp only [Act.put, List.setIfInBounds_toArray, List.set_cons_zero, List.set_cons_succ]
              refine wpG_done (by kernel_rfl) ?_ _
              have c1 := cellB' HBW.out.drew hbl2 HC1.out
              go_wp2_with (refine wpList_store_cell rfl 40 (.tmp 58) (.tmp 57) rfl g 1 (.slice A2 L2 C2) rfl rfl 42 [.int .i64 T, .slice dA dL dC] (show wr.drew.heap[g]? = some (.cells #[.int .i64 T, .slice dA dL dC] 42) from HG.out) (by kernel_rfl) (by simp) rfl ?_)
              intro w5 h5 ho5
              have HG5 : Hid (w5.heap[g]? = some (.cells #[.int .i64 T, .slice A2 L2 C2] 42 (0, 0))) := h5
              have HON5 : Hid (Only g wB w5) := (HON.out.trans (Only.grown (Gr.drew wr) (by have := (Array.getElem?_eq_some_iff.1 HG.out).1; omega))).trans ho5
              clear h5 ho5 c1
              go_wp2
              go_roundw
              case rel =>
                first | exact ⟨k, (k : Int) - 1, A2, L2, C2, ul, by go_num, by omega, by omega, HG5.out, HUB, HDR.out.symm, HON5.out⟩ | ((repeat apply Exists.intro); exact ⟨⟨k, (k : Int) - 1, A2, L2, C2, ul, by go_num, by omega, by omega, HG5.out, HUB, HDR.out.symm, HON5.out⟩, rfl⟩)
              case measure => first | (simp [intOf]; omega) | simp [intOf]
            · have hte : (U == T) = false := by simpa using ht
              rw [if_neg ht] at HDR
              have HDT2 : Hid ((T, dl) = takeOver (plain (ts.drop k)) (T, l)) := HDT.out.trans HDR.out.symm
              clear ht
              go_upto_region 12 with fail
              refine wp_region_G 8 Gr (by kernel_rfl) ?_
              -- 0: slot 45
              refine wpG_take preGr (i := 0) (v := ?_) (by kernel_rfl) (some 45) (by kernel_rfl) rfl (by kernel_rfl) (by kernel_rfl) (by kernel_rfl) (fun _ _ _ h => h) (by rfl) (fun w' hw' => ?_) rfl ?_
              rotate_left
              · try have g0 := cellB' (HBW.out.drew.trans (hw'.mono HBW.out.size)) hbl2 HC0.out
                try have g1 := (copy_cells (heap_gr ((Gr.drew wr).trans hw') HG.out)).1
                go_simp
                with_reducible rfl
              simp only [Act.put, List.setIfInBounds_toArray, List.set_cons_zero, List.set_cons_succ]
              -- 1: slot 46
              refine wpG_take preGr (i := 1) (v := ?_) (by kernel_rfl) (some 46) (by kernel_rfl) rfl (by kernel_rfl) (by kernel_rfl) (by kernel_rfl) (fun _ _ _ h => h) (by rfl) (fun w' hw' => ?_) rfl ?_
              rotate_left
              · try have g0 := cellB' (HBW.out.drew.trans (hw'.mono HBW.out.size)) hbl2 HC0.out
                try have g1 := (copy_cells (heap_gr ((Gr.drew wr).trans hw') HG.out)).1
                go_simp
                with_reducible rfl
              simp only [Act.put, List.setIfInBounds_toArray, List.set_cons_zero, List.set_cons_succ]
              -- 2: slot 47
              refine wpG_take preGr (i := 2) (v := ?_) (by kernel_rfl) (some 47) (by kernel_rfl) rfl (by kernel_rfl) (by kernel_rfl) (by kernel_rfl) (fun _ _ _ h => h) (by rfl) (fun w' hw' => ?_) rfl ?_
              rotate_left
              · try have g0 := cellB' (HBW.out.drew.trans (hw'.mono HBW.out.size)) hbl2 HC0.out
                try have g1 := (copy_cells (heap_gr ((Gr.drew wr).trans hw') HG.out)).1
                go_simp
                with_reducible rfl
              simp only [Act.put, List.setIfInBounds_toArray, List.set_cons_zero, List.set_cons_succ]
              -- 3: slot 48
              refine wpG_take preGr (i := 3) (v := ?_) (by kernel_rfl) (some 48) (by kernel_rfl) rfl (by kernel_rfl) (by kernel_rfl) (by kernel_rfl) (fun _ _ _ h => h) (by rfl) (fun w' hw' => ?_) rfl ?_
              rotate_left
              · try have g0 := cellB' (HBW.out.drew.trans (hw'.mono HBW.out.size)) hbl2 HC0.out
                try have g1 := (copy_cells (heap_gr ((Gr.drew wr).trans hw') HG.out)).1
                go_simp
                with_reducible rfl
              simp only [Act.put, List.setIfInBounds_toArray, List.set_cons_zero, List.set_cons_succ]
              -- 4: slot 49
              refine wpG_take preGr (i := 4) (v := ?_) (by kernel_rfl) (some 49) (by kernel_rfl) rfl (by kernel_rfl) (by kernel_rfl) (by kernel_rfl) (fun _ _ _ h => h) (by rfl) (fun w' hw' => ?_) rfl ?_
              rotate_left
              · try have g0 := cellB' (HBW.out.drew.trans (hw'.mono HBW.out.size)) hbl2 HC0.out
                try have g1 := (copy_cells (heap_gr ((Gr.drew wr).trans hw') HG.out)).1
                go_simp
                with_reducible rfl
              simp only [Act.put, List.setIfInBounds_toArray, List.set_cons_zero, List.set_cons_succ]
              -- 5: slot 50
              refine wpG_take preGr (i := 5) (v := ?_) (by kernel_rfl) (some 50) (by kernel_rfl) rfl (by kernel_rfl) (by kernel_rfl) (by kernel_rfl) (fun _ _ _ h => h) (by rfl) (fun w' hw' => ?_) rfl ?_
              rotate_left
              · try have g0 := cellB' (HBW.out.drew.trans (hw'.mono HBW.out.size)) hbl2 HC0.out
                try have g1 := (copy_cells (heap_gr ((Gr.drew wr).trans hw') HG.out)).1
                go_simp
                with_reducible rfl
              simp only [Act.put, List.setIfInBounds_toArray, List.set_cons_zero, List.set_cons_succ]
              -- 6: slot 51
              refine wpG_take preGr (i := 6) (v := ?_) (by kernel_rfl) (some 51) (by kernel_rfl) rfl (by kernel_rfl) (by kernel_rfl) (by kernel_rfl) (fun _ _ _ h => h) (by rfl) (fun w' hw' => ?_) rfl ?_
              rotate_left
              · try have g0 := cellB' (HBW.out.drew.trans (hw'.mono HBW.out.size)) hbl2 HC0.out
                try have g1 := (copy_cells (heap_gr ((Gr.drew wr).trans hw') HG.out)).1
                go_simp
                with_reducible rfl
              simp only [Act.put, List.setIfInBounds_toArray, List.set_cons_zero, List.set_cons_succ]
              -- 7: slot 52
              refine wpG_take preGr (i := 7) (v := ?_) (by kernel_rfl) (some 52) (by kernel_rfl) rfl (by kernel_rfl) (by kernel_rfl) (by kernel_rfl) (fun _ _ _ h => h) (by rfl) (fun w' hw' => ?_) rfl ?_
              rotate_left
              · try have g0 := cellB' (HBW.out.drew.trans (hw'.mono HBW.out.size)) hbl2 HC0.out
                try have g1 := (copy_cells (heap_gr ((Gr.drew wr).trans hw') HG.out)).1
                go_simp
                with_reducible rfl
              simp only [Act.put, List.setIfInBounds_toArray, List.set_cons_zero, List.set_cons_succ]
              refine wpG_done (by kernel_rfl) ?_ _
              have HON5 : Hid (Only g wB wr.drew) := HON.out.trans (Only.grown (Gr.drew wr) (by have := (Array.getElem?_eq_some_iff.1 HG.out).1; omega))
              have HG5 : Hid (wr.drew.heap[g]? = some (.cells #[.int .i64 T, .slice dA dL dC] 42)) := HG.out
              go_wp2
              go_roundw
              case rel =>
                first | exact ⟨k, (k : Int) - 1, dA, dL, dC, dl, by go_num, by omega, by omega, HG5.out, HDB, HDT2, HON5.out⟩ | ((repeat apply Exists.intro); exact ⟨⟨k, (k : Int) - 1, dA, dL, dC, dl, by go_num, by omega, by omega, HG5.out, HDB, HDT2, HON5.out⟩, rfl⟩)
              case measure => first | (simp [intOf]; omega) | simp [intOf]
      · obtain rfl : i = n := by omega
        have HRO2 : Hid (RO w wr w.heap.size lv ((plain qs).map (takeOver (plain ts)))) := by have := HRO.out; rwa [List.take_of_length_le (by rw [plain_length]; omega)] at this
        obtain ⟨a, m, c', us, ev, hp, htr⟩ := HRO2.out.tr HB.out
        subst ev
        have HP := Lib.hid hp
        have HTR := Lib.hid htr
        clear hp htr
        go_wp2
        go_ret2
        exact RLRes.of _ true a m c' us HLR.out HP.out HTR.out HB.out
  have e3 : (code == 3) = false := by simpa using h3
  have e3' : (code != 3) = true := by simpa using h3
  by_cases h4 : code = 4
  · subst h4
    clear h3 e3 e3'
    have HLR := Lib.hid (lrn_rej (q := plain qs) HNE.out)
    go_enter Try.func18, Try.ntmps18
    go_wp2
    go_loopw [8, 12, 13] (fun s8 kv iv wr => ∃ (i d : Nat) (lv : Value), i ≤ n ∧ d ≤ ln ∧ iv = .int .i64 (i : Int) ∧ kv = .int .i64 (d : Int) ∧ lv = s8 ∧ (strike ((plain qs).take i) (plain ts)).2 = (plain ts).drop d ∧ RO w wr w.heap.size lv (strike ((plain qs).take i) (plain ts)).1 ∧ Below w.heap.size w wr) (fun _ _ iv _ => n - (intOf iv).toNat)
    case atStart =>
      have hs0 : strike [] (plain ts) = ([], plain ts) := by cases plain ts <;> rfl
      exact ⟨0, 0, _, Nat.zero_le _, Nat.zero_le _, rfl, rfl, rfl, by rw [List.take_zero, hs0]; rfl, by rw [List.take_zero, hs0]; exact ⟨[], rfl, World.ownsRow_nil _ _ _ _, fun t h => by cases h⟩, Below.refl _ _⟩
    case round =>
      obtain ⟨i, d, lv, hin, hd, rfl, rfl, rfl, hst, hro, hb⟩ := hrel
      have HST := Lib.hid hst
      have HRO := Lib.hid hro
      have HB := Lib.hid hb
      clear hst hro hb
      by_cases hlt : i < n
      · obtain ⟨b, o, rfl, hbl, hc⟩ := HRA.out.cells (by omega)
        obtain ⟨hc0, hc1⟩ := hc i (by omega)
        have HV := Lib.hid (HRA.out.val i (by omega))
        obtain ⟨A, L, C, hv, hL, hLC, hCm⟩ := HV.out.sl
        rw [hv] at hc1
        obtain ⟨T, hT⟩ : ∃ T, T = qs[i].typ := ⟨_, rfl⟩
        rw [← hT] at hc0
        obtain ⟨l, hlq⟩ : ∃ l, l = qs[i].l := ⟨_, rfl⟩
        have HBS : Hid (Bs w (.slice A L C) l) := by show Bs _ _ _; rw [hlq, ← hv]; exact HV.out
        have HTK : Hid ((plain qs).take (i + 1) = (plain qs).take i ++ [(T, l)]) := by
          show _ = _
          rw [List.take_succ_eq_append_getElem (by rw [plain_length]; omega), plain_get _ _ (by omega), hT, hlq]
        have HSN : Hid (strike ((plain qs).take (i + 1)) (plain ts) = ((strike ((plain qs).take i) (plain ts)).1 ++ (strO ((plain ts).drop d) (T, l)).toList, strR ((plain ts).drop d) (T, l))) := by
          show _ = _
          rw [HTK.out, strike_snoc, HST.out]
        have S2 : Hid (∀ w', Below w.heap.size w w' → (convert 40 9 (.slice A L C)).run Try.prog w' = .ok (.string ⟨l.toArray⟩) w') := fun w' hw' => run_string_of (P := Try.prog) 40 9 5 Try.underlying40 Try.underlying5 Try.underlying9 (HBS.out.below hw')
        have HA0 := Lib.hid hc0
        have HA1 := Lib.hid hc1
        have hin2 : (i : Int) < (n : Int) := by omega
        clear hv hL hT hc hc0 hc1 hlq
        by_cases hdl : d < ln
        · have hdt : d < ts.length := by omega
          obtain ⟨b2, o2, ea, hbl2, hcel⟩ := HRT.out.cells (by omega)
          subst ea
          obtain ⟨c0, c1⟩ := hcel d hdt
          have HV2 := Lib.hid (HRT.out.val d hdt)
          obtain ⟨A2, L2, C2, hv2, _, _, _⟩ := HV2.out.sl
          rw [hv2] at c1
          obtain ⟨U, hU⟩ : ∃ U, U = ts[d].typ := ⟨_, rfl⟩
          obtain ⟨ul, hul⟩ : ∃ l, l = ts[d].l := ⟨_, rfl⟩
          rw [← hU] at c0
          have HUB : Hid (Bs w (.slice A2 L2 C2) ul) := by show Bs _ _ _; rw [hul, ← hv2]; exact HV2.out
          have S1 : Hid (∀ w', Below w.heap.size w w' → (convert 40 9 (.slice A2 L2 C2)).run Try.prog w' = .ok (.string ⟨ul.toArray⟩) w') := fun w' hw' => run_string_of (P := Try.prog) 40 9 5 Try.underlying40 Try.underlying5 Try.underlying9 (HUB.out.below hw')
          have HDR : Hid ((plain ts).drop d = (U, ul) :: (plain ts).drop (d + 1)) := by
            show _ = _
            rw [List.drop_eq_getElem_cons (by rw [plain_length]; exact hdt), plain_get _ _ hdt, hU, hul]
          have HC0 := Lib.hid c0
          have HC1 := Lib.hid c1
          have hdl2 : (d : Int) < (ln : Int) := by omega
          clear hcel hv2 hU hul c0 c1
          by_cases ht : U = T
          · have hte : (U == T) = true := by simpa using ht
            by_cases hx : ul = l
            · have hxe : (ul == l) = true := by simpa using hx
              have HSN2 : Hid (strike ((plain qs).take (i + 1)) (plain ts) = ((strike ((plain qs).take i) (plain ts)).1, (plain ts).drop (d + 1))) := by
                show _ = _
                rw [HSN.out, HDR.out]
                unfold strO strR
                rw [ht, hx]
                simp
              subst ht
              subst hx
              clear hte hxe
              go_upto_region 20 with fail
              refine wp_region_G 32 Gr (by kernel_rfl) ?_
              -- 0: slot 70
              refine wpG_take preGr (i := 0) (v := ?_) (by kernel_rfl) (some 70) (by kernel_rfl) rfl (by kernel_rfl) (by kernel_rfl) (by kernel_rfl) (fun _ _ _ h => h) (by rfl) (fun w' hw' => ?_) rfl ?_
              rotate_left
              · try have g0 := cellB' (HB.out.drew.trans (hw'.mono HB.out.size)) hbl HA0.out
                try have g1 := cellB' (HB.out.drew.trans (hw'.mono HB.out.size)) hbl HA1.out
                try have g2 := cellB' (HB.out.drew.trans (hw'.mono HB.out.size)) hbl2 HC0.out
                try have g3 := cellB' (HB.out.drew.trans (hw'.mono HB.out.size)) hbl2 HC1.out
                try have g4 := S1.out _ (HB.out.drew.trans (hw'.mono HB.out.size))
                try have g5 := S2.out _ (HB.out.drew.trans (hw'.mono HB.out.size))
                go_simp
                with_reducible rfl
              simp only [Act.put, List.setIfInBounds_toArray, List.set_cons_zero, List.set_cons_succ]
              -- 1: slot 71
              refine wpG_take preGr (i := 1) (v := ?_) (by kernel_rfl) (some 71) (by kernel_rfl) rfl (by kernel_rfl) (by kernel_rfl) (by kernel_rfl) (fun _ _ _ h => h) (by rfl) (fun w' hw' => ?_) rfl ?_
              rotate_left
              · try have g0 := cellB' (HB.out.drew.trans (hw'.mono HB.out.size)) hbl HA0.out
                try have g1 := cellB' (HB.out.drew.trans (hw'.mono HB.out.size)) hbl HA1.out
                try have g2 := cellB' (HB.out.drew.trans (hw'.mono HB.out.size)) hbl2 HC0.out
                try have g3 := cellB' (HB.out.drew.trans (hw'.mono HB.out.size)) hbl2 HC1.out
                try have g4 := S1.out _ (HB.out.drew.trans (hw'.mono HB.out.size))
                try have g5 := S2.out _ (HB.out.drew.trans (hw'.mono HB.out.size))
                go_simp
                with_reducible rfl
              simp only [Act.put, List.setIfInBounds_toArray, List.set_cons_zero, List.set_cons_succ]
              -- 2: slot 72
              refine wpG_take preGr (i := 2) (v := ?_) (by kernel_rfl) (some 72) (by kernel_rfl) rfl (by kernel_rfl) (by kernel_rfl) (by kernel_rfl) (fun _ _ _ h => h) (by rfl) (fun w' hw' => ?_) rfl ?_
              rotate_left
              · try have g0 := cellB' (HB.out.drew.trans (hw'.mono HB.out.size)) hbl HA0.out
                try have g1 := cellB' (HB.out.drew.trans (hw'.mono HB.out.size)) hbl HA1.out
                try have g2 := cellB' (HB.out.drew.trans (hw'.mono HB.out.size)) hbl2 HC0.out
                try have g3 := cellB' (HB.out.drew.trans (hw'.mono HB.out.size)) hbl2 HC1.out
                try have g4 := S1.out _ (HB.out.drew.trans (hw'.mono HB.out.size))
                try have g5 := S2.out _ (HB.out.drew.trans (hw'.mono HB.out.size))
                go_simp
                with_reducible rfl
              simp only [Act.put, List.setIfInBounds_toArray, List.set_cons_zero, List.set_cons_succ]
              -- 3: slot 73
              refine wpG_take preGr (i := 3) (v := ?_) (by kernel_rfl) (some 73) (by kernel_rfl) rfl (by kernel_rfl) (by kernel_rfl) (by kernel_rfl) (fun _ _ _ h => h) (by rfl) (fun w' hw' => ?_) rfl ?_
              rotate_left
              · try have g0 := cellB' (HB.out.drew.trans (hw'.mono HB.out.size)) hbl HA0.out
                try have g1 := cellB' (HB.out.drew.trans (hw'.mono HB.out.size)) hbl HA1.out
                try have g2 := cellB' (HB.out.drew.trans (hw'.mono HB.out.size)) hbl2 HC0.out
                try have g3 := cellB' (HB.out.drew.trans (hw'.mono HB.out.size)) hbl2 HC1.out
                try have g4 := S1.out _ (HB.out.drew.trans (hw'.mono HB.out.size))
                try have g5 := S2.out _ (HB.out.drew.trans (hw'.mono HB.out.size))
                go_simp
                with_reducible rfl
              simp only [Act.put, List.setIfInBounds_toArray, List.set_cons_zero, List.set_cons_succ]
              -- 4: slot 74
              refine wpG_take preGr (i := 4) (v := ?_) (by kernel_rfl) (some 74) (by kernel_rfl) rfl (by kernel_rfl) (by kernel_rfl) (by kernel_rfl) (fun _ _ _ h => h) (by rfl) (fun w' hw' => ?_) rfl ?_
              rotate_left
              · try have g0 := cellB' (HB.out.drew.trans (hw'.mono HB.out.size)) hbl HA0.out
                try have g1 := cellB' (HB.out.drew.trans (hw'.mono HB.out.size)) hbl HA1.out
                try have g2 := cellB' (HB.out.drew.trans (hw'.mono HB.out.size)) hbl2 HC0.out
                try have g3 := cellB' (HB.out.drew.trans (hw'.mono HB.out.size)) hbl2 HC1.out
                try have g4 := S1.out _ (HB.out.drew.trans (hw'.mono HB.out.size))
                try have g5 := S2.out _ (HB.out.drew.trans (hw'.mono HB.out.size))
                go_simp
                with_reducible rfl
              simp only [Act.put, List.setIfInBounds_toArray, List.set_cons_zero, List.set_cons_succ]
              -- 5: slot 75
              refine wpG_take preGr (i := 5) (v := ?_) (by kernel_rfl) (some 75) (by kernel_rfl) rfl (by kernel_rfl) (by kernel_rfl) (by kernel_rfl) (fun _ _ _ h => h) (by rfl) (fun w' hw' => ?_) rfl ?_
              rotate_left
              · try have g0 := cellB' (HB.out.drew.trans (hw'.mono HB.out.size)) hbl HA0.out
                try have g1 := cellB' (HB.out.drew.trans (hw'.mono HB.out.size)) hbl HA1.out
                try have g2 := cellB' (HB.out.drew.trans (hw'.mono HB.out.size)) hbl2 HC0.out
                try have g3 := cellB' (HB.out.drew.trans (hw'.mono HB.out.size)) hbl2 HC1.out
                try have g4 := S1.out _ (HB.out.drew.trans (hw'.mono HB.out.size))
                try have g5 := S2.out _ (HB.out.drew.trans (hw'.mono HB.out.size))
                go_simp
                with_reducible rfl
              simp only [Act.put, List.setIfInBounds_toArray, List.set_cons_zero, List.set_cons_succ]
              -- 6: slot 76
              refine wpG_take preGr (i := 6) (v := ?_) (by kernel_rfl) (some 76) (by kernel_rfl) rfl (by kernel_rfl) (by kernel_rfl) (by kernel_rfl) (fun _ _ _ h => h) (by rfl) (fun w' hw' => ?_) rfl ?_
              rotate_left
              · try have g0 := cellB' (HB.out.drew.trans (hw'.mono HB.out.size)) hbl HA0.out
                try have g1 := cellB' (HB.out.drew.trans (hw'.mono HB.out.size)) hbl HA1.out
                try have g2 := cellB' (HB.out.drew.trans (hw'.mono HB.out.size)) hbl2 HC0.out
                try have g3 := cellB' (HB.out.drew.trans (hw'.mono HB.out.size)) hbl2 HC1.out
                try have g4 := S1.out _ (HB.out.drew.trans (hw'.mono HB.out.size))
                try have g5 := S2.out _ (HB.out.drew.trans (hw'.mono HB.out.size))
                go_simp
                with_reducible rfl
              simp only [Act.put, List.setIfInBounds_toArray, List.set_cons_zero, List.set_cons_succ]
              -- 7: slot 77
              refine wpG_take preGr (i := 7) (v := ?_) (by kernel_rfl) (some 77) (by kernel_rfl) rfl (by kernel_rfl) (by kernel_rfl) (by kernel_rfl) (fun _ _ _ h => h) (by rfl) (fun w' hw' => ?_) rfl ?_
              rotate_left
              · try have g0 := cellB' (HB.out.drew.trans (hw'.mono HB.out.size)) hbl HA0.out
                try have g1 := cellB' (HB.out.drew.trans (hw'.mono HB.out.size)) hbl HA1.out
                try have g2 := cellB' (HB.out.drew.trans (hw'.mono HB.out.size)) hbl2 HC0.out
                try have g3 := cellB' (HB.out.drew.trans (hw'.mono HB.out.size)) hbl2 HC1.out
                try have g4 := S1.out _ (HB.out.drew.trans (hw'.mono HB.out.size))
                try have g5 := S2.out _ (HB.out.drew.trans (hw'.mono HB.out.size))
                go_simp
                with_reducible rfl
              simp only [Act.put, List.setIfInBounds_toArray, List.set_cons_zero, List.set_cons_succ]
              -- 8: slot 78
              refine wpG_take preGr (i := 8) (v := ?_) (by kernel_rfl) (some 78) (by kernel_rfl) rfl (by kernel_rfl) (by kernel_rfl) (by kernel_rfl) (fun _ _ _ h => h) (by rfl) (fun w' hw' => ?_) rfl ?_
              rotate_left
              · try have g0 := cellB' (HB.out.drew.trans (hw'.mono HB.out.size)) hbl HA0.out
                try have g1 := cellB' (HB.out.drew.trans (hw'.mono HB.out.size)) hbl HA1.out
                try have g2 := cellB' (HB.out.drew.trans (hw'.mono HB.out.size)) hbl2 HC0.out
                try have g3 := cellB' (HB.out.drew.trans (hw'.mono HB.out.size)) hbl2 HC1.out
                try have g4 := S1.out _ (HB.out.drew.trans (hw'.mono HB.out.size))
                try have g5 := S2.out _ (HB.out.drew.trans (hw'.mono HB.out.size))
                go_simp
                with_reducible rfl
              simp only [Act.put, List.setIfInBounds_toArray, List.set_cons_zero, List.set_cons_succ]
              -- 9: slot 79
              refine wpG_take preGr (i := 9) (v := ?_) (by kernel_rfl) (some 79) (by kernel_rfl) rfl (by kernel_rfl) (by kernel_rfl) (by kernel_rfl) (fun _ _ _ h => h) (by rfl) (fun w' hw' => ?_) rfl ?_
              rotate_left
              · try have g0 := cellB' (HB.out.drew.trans (hw'.mono HB.out.size)) hbl HA0.out
                try have g1 := cellB' (HB.out.drew.trans (hw'.mono HB.out.size)) hbl HA1.out
                try have g2 := cellB' (HB.out.drew.trans (hw'.mono HB.out.size)) hbl2 HC0.out
                try have g3 := cellB' (HB.out.drew.trans (hw'.mono HB.out.size)) hbl2 HC1.out
                try have g4 := S1.out _ (HB.out.drew.trans (hw'.mono HB.out.size))
                try have g5 := S2.out _ (HB.out.drew.trans (hw'.mono HB.out.size))
                go_simp
                with_reducible rfl
              simp only [Act.put, List.setIfInBounds_toArray, List.set_cons_zero, List.set_cons_succ]
              -- 10: slot 80
              refine wpG_take preGr (i := 10) (v := ?_) (by kernel_rfl) (some 80) (by kernel_rfl) rfl (by kernel_rfl) (by kernel_rfl) (by kernel_rfl) (fun _ _ _ h => h) (by rfl) (fun w' hw' => ?_) rfl ?_
              rotate_left
              · try have g0 := cellB' (HB.out.drew.trans (hw'.mono HB.out.size)) hbl HA0.out
                try have g1 := cellB' (HB.out.drew.trans (hw'.mono HB.out.size)) hbl HA1.out
                try have g2 := cellB' (HB.out.drew.trans (hw'.mono HB.out.size)) hbl2 HC0.out
                try have g3 := cellB' (HB.out.drew.trans (hw'.mono HB.out.size)) hbl2 HC1.out
                try have g4 := S1.out _ (HB.out.drew.trans (hw'.mono HB.out.size))
                try have g5 := S2.out _ (HB.out.drew.trans (hw'.mono HB.out.size))
                go_simp
                with_reducible rfl
              simp only [Act.put, List.setIfInBounds_toArray, List.set_cons_zero, List.set_cons_succ]
              -- 11: slot 81
              refine wpG_take preGr (i := 11) (v := ?_) (by kernel_rfl) (some 81) (by kernel_rfl) rfl (by kernel_rfl) (by kernel_rfl) (by kernel_rfl) (fun _ _ _ h => h) (by rfl) (fun w' hw' => ?_) rfl ?_
              rotate_left
              · try have g0 := cellB' (HB.out.drew.trans (hw'.mono HB.out.size)) hbl HA0.out
                try have g1 := cellB' (HB.out.drew.trans (hw'.mono HB.out.size)) hbl HA1.out
                try have g2 := cellB' (HB.out.drew.trans (hw'.mono HB.out.size)) hbl2 HC0.out
                try have g3 := cellB' (HB.out.drew.trans (hw'.mono HB.out.size)) hbl2 HC1.out
                try have g4 := S1.out _ (HB.out.drew.trans (hw'.mono HB.out.size))
                try have g5 := S2.out _ (HB.out.drew.trans (hw'.mono HB.out.size))
                go_simp
                with_reducible rfl
              simp only [Act.put, List.setIfInBounds_toArray, List.set_cons_zero, List.set_cons_succ]
              -- 12: slot 82
              refine wpG_take preGr (i := 12) (v := ?_) (by kernel_rfl) (some 82) (by kernel_rfl) rfl (by kernel_rfl) (by kernel_rfl) (by kernel_rfl) (fun _ _ _ h => h) (by rfl) (fun w' hw' => ?_) rfl ?_
              rotate_left
              · try have g0 := cellB' (HB.out.drew.trans (hw'.mono HB.out.size)) hbl HA0.out
                try have g1 := cellB' (HB.out.drew.trans (hw'.mono HB.out.size)) hbl HA1.out
                try have g2 := cellB' (HB.out.drew.trans (hw'.mono HB.out.size)) hbl2 HC0.out
                try have g3 := cellB' (HB.out.drew.trans (hw'.mono HB.out.size)) hbl2 HC1.out
                try have g4 := S1.out _ (HB.out.drew.trans (hw'.mono HB.out.size))
                try have g5 := S2.out _ (HB.out.drew.trans (hw'.mono HB.out.size))
                go_simp
                with_reducible rfl
              simp only [Act.put, List.setIfInBounds_toArray, List.set_cons_zero, List.set_cons_succ]
              -- 13: slot 83
              refine wpG_take preGr (i := 13) (v := ?_) (by kernel_rfl) (some 83) (by kernel_rfl) rfl (by kernel_rfl) (by kernel_rfl) (by kernel_rfl) (fun _ _ _ h => h) (by rfl) (fun w' hw' => ?_) rfl ?_
              rotate_left
              · try have g0 := cellB' (HB.out.drew.trans (hw'.mono HB.out.size)) hbl HA0.out
                try have g1 := cellB' (HB.out.drew.trans (hw'.mono HB.out.size)) hbl HA1.out
                try have g2 := cellB' (HB.out.drew.trans (hw'.mono HB.out.size)) hbl2 HC0.out
                try have g3 := cellB' (HB.out.drew.trans (hw'.mono HB.out.size)) hbl2 HC1.out
                try have g4 := S1.out _ (HB.out.drew.trans (hw'.mono HB.out.size))
                try have g5 := S2.out _ (HB.out.drew.trans (hw'.mono HB.out.size))
                go_simp
                with_reducible rfl
              simp only [Act.put, List.setIfInBounds_toArray, List.set_cons_zero, List.set_cons_succ]
              -- 14: slot 84
              refine wpG_take preGr (i := 14) (v := ?_) (by kernel_rfl) (some 84) (by kernel_rfl) rfl (by kernel_rfl) (by kernel_rfl) (by kernel_rfl) (fun _ _ _ h => h) (by rfl) (fun w' hw' => ?_) rfl ?_
              rotate_left
              · try have g0 := cellB' (HB.out.drew.trans (hw'.mono HB.out.size)) hbl HA0.out
                try have g1 := cellB' (HB.out.drew.trans (hw'.mono HB.out.size)) hbl HA1.out
                try have g2 := cellB' (HB.out.drew.trans (hw'.mono HB.out.size)) hbl2 HC0.out
                try have g3 := cellB' (HB.out.drew.trans (hw'.mono HB.out.size)) hbl2 HC1.out
                try have g4 := S1.out _ (HB.out.drew.trans (hw'.mono HB.out.size))
                try have g5 := S2.out _ (HB.out.drew.trans (hw'.mono HB.out.size))
                go_simp
                with_reducible rfl
              simp only [Act.put, List.setIfInBounds_toArray, List.set_cons_zero, List.set_cons_succ]
              -- 15: slot 85
              refine wpG_take preGr (i := 15) (v := ?_) (by kernel_rfl) (some 85) (by kernel_rfl) rfl (by kernel_rfl) (by kernel_rfl) (by kernel_rfl) (fun _ _ _ h => h) (by rfl) (fun w' hw' => ?_) rfl ?_
              rotate_left
              · try have g0 := cellB' (HB.out.drew.trans (hw'.mono HB.out.size)) hbl HA0.out
                try have g1 := cellB' (HB.out.drew.trans (hw'.mono HB.out.size)) hbl HA1.out
                try have g2 := cellB' (HB.out.drew.trans (hw'.mono HB.out.size)) hbl2 HC0.out
                try have g3 := cellB' (HB.out.drew.trans (hw'.mono HB.out.size)) hbl2 HC1.out
                try have g4 := S1.out _ (HB.out.drew.trans (hw'.mono HB.out.size))
                try have g5 := S2.out _ (HB.out.drew.trans (hw'.mono HB.out.size))
                go_simp
                with_reducible rfl
              simp only [Act.put, List.setIfInBounds_toArray, List.set_cons_zero, List.set_cons_succ]
              -- 16: slot 86
              refine wpG_take preGr (i := 16) (v := ?_) (by kernel_rfl) (some 86) (by kernel_rfl) rfl (by kernel_rfl) (by kernel_rfl) (by kernel_rfl) (fun _ _ _ h => h) (by rfl) (fun w' hw' => ?_) rfl ?_
              rotate_left
              · try have g0 := cellB' (HB.out.drew.trans (hw'.mono HB.out.size)) hbl HA0.out
                try have g1 := cellB' (HB.out.drew.trans (hw'.mono HB.out.size)) hbl HA1.out
                try have g2 := cellB' (HB.out.drew.trans (hw'.mono HB.out.size)) hbl2 HC0.out
                try have g3 := cellB' (HB.out.drew.trans (hw'.mono HB.out.size)) hbl2 HC1.out
                try have g4 := S1.out _ (HB.out.drew.trans (hw'.mono HB.out.size))
                try have g5 := S2.out _ (HB.out.drew.trans (hw'.mono HB.out.size))
                go_simp
                with_reducible rfl
              simp only [Act.put, List.setIfInBounds_toArray, List.set_cons_zero, List.set_cons_succ]
              -- 17: slot 87
              refine wpG_take preGr (i := 17) (v := ?_) (by kernel_rfl) (some 87) (by kernel_rfl) rfl (by kernel_rfl) (by kernel_rfl) (by kernel_rfl) (fun _ _ _ h => h) (by rfl) (fun w' hw' => ?_) rfl ?_
              rotate_left
              · try have g0 := cellB' (HB.out.drew.trans (hw'.mono HB.out.size)) hbl HA0.out
                try have g1 := cellB' (HB.out.drew.trans (hw'.mono HB.out.size)) hbl HA1.out
                try have g2 := cellB' (HB.out.drew.trans (hw'.mono HB.out.size)) hbl2 HC0.out
                try have g3 := cellB' (HB.out.drew.trans (hw'.mono HB.out.size)) hbl2 HC1.out
                try have g4 := S1.out _ (HB.out.drew.trans (hw'.mono HB.out.size))
                try have g5 := S2.out _ (HB.out.drew.trans (hw'.mono HB.out.size))
                go_simp
                with_reducible rfl
              simp only [Act.put, List.setIfInBounds_toArray, List.set_cons_zero, List.set_cons_succ]
              -- 18: slot 88
              refine wpG_take preGr (i := 18) (v := ?_) (by kernel_rfl) (some 88) (by kernel_rfl) rfl (by kernel_rfl) (by kernel_rfl) (by kernel_rfl) (fun _ _ _ h => h) (by rfl) (fun w' hw' => ?_) rfl ?_
              rotate_left
              · try have g0 := cellB' (HB.out.drew.trans (hw'.mono HB.out.size)) hbl HA0.out
                try have g1 := cellB' (HB.out.drew.trans (hw'.mono HB.out.size)) hbl HA1.out
                try have g2 := cellB' (HB.out.drew.trans (hw'.mono HB.out.size)) hbl2 HC0.out
                try have g3 := cellB' (HB.out.drew.trans (hw'.mono HB.out.size)) hbl2 HC1.out
                try have g4 := S1.out _ (HB.out.drew.trans (hw'.mono HB.out.size))
                try have g5 := S2.out _ (HB.out.drew.trans (hw'.mono HB.out.size))
                go_simp
                with_reducible rfl
              simp only [Act.put, List.setIfInBounds_toArray, List.set_cons_zero, List.set_cons_succ]
              -- 19: slot 89
              refine wpG_take preGr (i := 19) (v := ?_) (by kernel_rfl) (some 89) (by kernel_rfl) rfl (by kernel_rfl) (by kernel_rfl) (by kernel_rfl) (fun _ _ _ h => h) (by rfl) (fun w' hw' => ?_) rfl ?_
              rotate_left
              · try have g0 := cellB' (HB.out.drew.trans (hw'.mono HB.out.size)) hbl HA0.out
                try have g1 := cellB' (HB.out.drew.trans (hw'.mono HB.out.size)) hbl HA1.out
                try have g2 := cellB' (HB.out.drew.trans (hw'.mono HB.out.size)) hbl2 HC0.out
                try have g3 := cellB' (HB.out.drew.trans (hw'.mono HB.out.size)) hbl2 HC1.out
                try have g4 := S1.out _ (HB.out.drew.trans (hw'.mono HB.out.size))
                try have g5 := S2.out _ (HB.out.drew.trans (hw'.mono HB.out.size))
                go_simp
                with_reducible rfl
              simp only [Act.put, List.setIfInBounds_toArray, List.set_cons_zero, List.set_cons_succ]
              -- 20: slot 90
              refine wpG_take preGr (i := 20) (v := ?_) (by kernel_rfl) (some 90) (by kernel_rfl) rfl (by kernel_rfl) (by kernel_rfl) (by kernel_rfl) (fun _ _ _ h => h) (by rfl) (fun w' hw' => ?_) rfl ?_
              rotate_left
              · try have g0 := cellB' (HB.out.drew.trans (hw'.mono HB.out.size)) hbl HA0.out
                try have g1 := cellB' (HB.out.drew.trans (hw'.mono HB.out.size)) hbl HA1.out
                try have g2 := cellB' (HB.out.drew.trans (hw'.mono HB.out.size)) hbl2 HC0.out
                try have g3 := cellB' (HB.out.drew.trans (hw'.mono HB.out.size)) hbl2 HC1.out
                try have g4 := S1.out _ (HB.out.drew.trans (hw'.mono HB.out.size))
                try have g5 := S2.out _ (HB.out.drew.trans (hw'.mono HB.out.size))
                go_simp
                with_reducible rfl
              simp only [Act.put, List.setIfInBounds_toArray, List.set_cons_zero, List.set_cons_succ]
              -- 21: slot 91
              refine wpG_take preGr (i := 21) (v := ?_) (by kernel_rfl) (some 91) (by kernel_rfl) rfl (by kernel_rfl) (by kernel_rfl) (by kernel_rfl) (fun _ _ _ h => h) (by rfl) (fun w' hw' => ?_) rfl ?_
              rotate_left
              · try have g0 := cellB' (HB.out.drew.trans (hw'.mono HB.out.size)) hbl HA0.out
                try have g1 := cellB' (HB.out.drew.trans (hw'.mono HB.out.size)) hbl HA1.out
                try have g2 := cellB' (HB.out.drew.trans (hw'.mono HB.out.size)) hbl2 HC0.out
                try have g3 := cellB' (HB.out.drew.trans (hw'.mono HB.out.size)) hbl2 HC1.out
                try have g4 := S1.out _ (HB.out.drew.trans (hw'.mono HB.out.size))
                try have g5 := S2.out _ (HB.out.drew.trans (hw'.mono HB.out.size))
                go_simp
                with_reducible rfl
              simp only [Act.put, List.setIfInBounds_toArray, List.set_cons_zero, List.set_cons_succ]
              -- 22: slot 92
              refine wpG_take preGr (i := 22) (v := ?_) (by kernel_rfl) (some 92) (by kernel_rfl) rfl (by kernel_rfl) (by kernel_rfl) (by kernel_rfl) (fun _ _ _ h => h) (by rfl) (fun w' hw' => ?_) rfl ?_
              rotate_left
              · try have g0 := cellB' (HB.out.drew.trans (hw'.mono HB.out.size)) hbl HA0.out
                try have g1 := cellB' (HB.out.drew.trans (hw'.mono HB.out.size)) hbl HA1.out
                try have g2 := cellB' (HB.out.drew.trans (hw'.mono HB.out.size)) hbl2 HC0.out
                try have g3 := cellB' (HB.out.drew.trans (hw'.mono HB.out.size)) hbl2 HC1.out
                try have g4 := S1.out _ (HB.out.drew.trans (hw'.mono HB.out.size))
                try have g5 := S2.out _ (HB.out.drew.trans (hw'.mono HB.out.size))
                go_simp
                with_reducible rfl
              simp only [Act.put, List.setIfInBounds_toArray, List.set_cons_zero, List.set_cons_succ]
              -- 23: slot 93
              refine wpG_take preGr (i := 23) (v := ?_) (by kernel_rfl) (some 93) (by kernel_rfl) rfl (by kernel_rfl) (by kernel_rfl) (by kernel_rfl) (fun _ _ _ h => h) (by rfl) (fun w' hw' => ?_) rfl ?_
              rotate_left
              · try have g0 := cellB' (HB.out.drew.trans (hw'.mono HB.out.size)) hbl HA0.out
                try have g1 := cellB' (HB.out.drew.trans (hw'.mono HB.out.size)) hbl HA1.out
                try have g2 := cellB' (HB.out.drew.trans (hw'.mono HB.out.size)) hbl2 HC0.out
                try have g3 := cellB' (HB.out.drew.trans (hw'.mono HB.out.size)) hbl2 HC1.out
                try have g4 := S1.out _ (HB.out.drew.trans (hw'.mono HB.out.size))
                try have g5 := S2.out _ (HB.out.drew.trans (hw'.mono HB.out.size))
                go_simp
                with_reducible rfl
              simp only [Act.put, List.setIfInBounds_toArray, List.set_cons_zero, List.set_cons_succ]
              -- 24: slot 94
              refine wpG_take preGr (i := 24) (v := ?_) (by kernel_rfl) (some 94) (by kernel_rfl) rfl (by kernel_rfl) (by kernel_rfl) (by kernel_rfl) (fun _ _ _ h => h) (by rfl) (fun w' hw' => ?_) rfl ?_
              rotate_left
              · try have g0 := cellB' (HB.out.drew.trans (hw'.mono HB.out.size)) hbl HA0.out
                try have g1 := cellB' (HB.out.drew.trans (hw'.mono HB.out.size)) hbl HA1.out
                try have g2 := cellB' (HB.out.drew.trans (hw'.mono HB.out.size)) hbl2 HC0.out
                try have g3 := cellB' (HB.out.drew.trans (hw'.mono HB.out.size)) hbl2 HC1.out
                try have g4 := S1.out _ (HB.out.drew.trans (hw'.mono HB.out.size))
                try have g5 := S2.out _ (HB.out.drew.trans (hw'.mono HB.out.size))
                go_simp
                with_reducible rfl
              simp only [Act.put, List.setIfInBounds_toArray, List.set_cons_zero, List.set_cons_succ]
              -- 25: slot 95
              refine wpG_take preGr (i := 25) (v := ?_) (by kernel_rfl) (some 95) (by kernel_rfl) rfl (by kernel_rfl) (by kernel_rfl) (by kernel_rfl) (fun _ _ _ h => h) (by rfl) (fun w' hw' => ?_) rfl ?_
              rotate_left
              · try have g0 := cellB' (HB.out.drew.trans (hw'.mono HB.out.size)) hbl HA0.out
                try have g1 := cellB' (HB.out.drew.trans (hw'.mono HB.out.size)) hbl HA1.out
                try have g2 := cellB' (HB.out.drew.trans (hw'.mono HB.out.size)) hbl2 HC0.out
                try have g3 := cellB' (HB.out.drew.trans (hw'.mono HB.out.size)) hbl2 HC1.out
                try have g4 := S1.out _ (HB.out.drew.trans (hw'.mono HB.out.size))
                try have g5 := S2.out _ (HB.out.drew.trans (hw'.mono HB.out.size))
                go_simp
                with_reducible rfl
              simp only [Act.put, List.setIfInBounds_toArray, List.set_cons_zero, List.set_cons_succ]
              -- 26: slot 96
              refine wpG_take preGr (i := 26) (v := ?_) (by kernel_rfl) (some 96) (by kernel_rfl) rfl (by kernel_rfl) (by kernel_rfl) (by kernel_rfl) (fun _ _ _ h => h) (by rfl) (fun w' hw' => ?_) rfl ?_
              rotate_left
              · try have g0 := cellB' (HB.out.drew.trans (hw'.mono HB.out.size)) hbl HA0.out
                try have g1 := cellB' (HB.out.drew.trans (hw'.mono HB.out.size)) hbl HA1.out
                try have g2 := cellB' (HB.out.drew.trans (hw'.mono HB.out.size)) hbl2 HC0.out
                try have g3 := cellB' (HB.out.drew.trans (hw'.mono HB.out.size)) hbl2 HC1.out
                try have g4 := S1.out _ (HB.out.drew.trans (hw'.mono HB.out.size))
                try have g5 := S2.out _ (HB.out.drew.trans (hw'.mono HB.out.size))
                go_simp
                with_reducible rfl
              simp only [Act.put, List.setIfInBounds_toArray, List.set_cons_zero, List.set_cons_succ]
              -- 27: slot 97
              refine wpG_take preGr (i := 27) (v := ?_) (by kernel_rfl) (some 97) (by kernel_rfl) rfl (by kernel_rfl) (by kernel_rfl) (by kernel_rfl) (fun _ _ _ h => h) (by rfl) (fun w' hw' => ?_) rfl ?_
              rotate_left
              · try have g0 := cellB' (HB.out.drew.trans (hw'.mono HB.out.size)) hbl HA0.out
                try have g1 := cellB' (HB.out.drew.trans (hw'.mono HB.out.size)) hbl HA1.out
                try have g2 := cellB' (HB.out.drew.trans (hw'.mono HB.out.size)) hbl2 HC0.out
                try have g3 := cellB' (HB.out.drew.trans (hw'.mono HB.out.size)) hbl2 HC1.out
                try have g4 := S1.out _ (HB.out.drew.trans (hw'.mono HB.out.size))
                try have g5 := S2.out _ (HB.out.drew.trans (hw'.mono HB.out.size))
                go_simp
                with_reducible rfl
              simp only [Act.put, List.setIfInBounds_toArray, List.set_cons_zero, List.set_cons_succ]
              -- 28: slot 98
              refine wpG_take preGr (i := 28) (v := ?_) (by kernel_rfl) (some 98) (by kernel_rfl) rfl (by kernel_rfl) (by kernel_rfl) (by kernel_rfl) (fun _ _ _ h => h) (by rfl) (fun w' hw' => ?_) rfl ?_
              rotate_left
              · try have g0 := cellB' (HB.out.drew.trans (hw'.mono HB.out.size)) hbl HA0.out
                try have g1 := cellB' (HB.out.drew.trans (hw'.mono HB.out.size)) hbl HA1.out
                try have g2 := cellB' (HB.out.drew.trans (hw'.mono HB.out.size)) hbl2 HC0.out
                try have g3 := cellB' (HB.out.drew.trans (hw'.mono HB.out.size)) hbl2 HC1.out
                try have g4 := S1.out _ (HB.out.drew.trans (hw'.mono HB.out.size))
                try have g5 := S2.out _ (HB.out.drew.trans (hw'.mono HB.out.size))
                go_simp
                with_reducible rfl
              simp only [Act.put, List.setIfInBounds_toArray, List.set_cons_zero, List.set_cons_succ]
              -- 29: slot 99
              refine wpG_take preGr (i := 29) (v := ?_) (by kernel_rfl) (some 99) (by kernel_rfl) rfl (by kernel_rfl) (by kernel_rfl) (by kernel_rfl) (fun _ _ _ h => h) (by rfl) (fun w' hw' => ?_) rfl ?_
              rotate_left
              · try have g0 := cellB' (HB.out.drew.trans (hw'.mono HB.out.size)) hbl HA0.out
                try have g1 := cellB' (HB.out.drew.trans (hw'.mono HB.out.size)) hbl HA1.out
                try have g2 := cellB' (HB.out.drew.trans (hw'.mono HB.out.size)) hbl2 HC0.out
                try have g3 := cellB' (HB.out.drew.trans (hw'.mono HB.out.size)) hbl2 HC1.out
                try have g4 := S1.out _ (HB.out.drew.trans (hw'.mono HB.out.size))
                try have g5 := S2.out _ (HB.out.drew.trans (hw'.mono HB.out.size))
                go_simp
                with_reducible rfl
              simp only [Act.put, List.setIfInBounds_toArray, List.set_cons_zero, List.set_cons_succ]
              -- 30: slot 100
              refine wpG_take preGr (i := 30) (v := ?_) (by kernel_rfl) (some 100) (by kernel_rfl) rfl (by kernel_rfl) (by kernel_rfl) (by kernel_rfl) (fun _ _ _ h => h) (by rfl) (fun w' hw' => ?_) rfl ?_
              rotate_left
              · try have g0 := cellB' (HB.out.drew.trans (hw'.mono HB.out.size)) hbl HA0.out
                try have g1 := cellB' (HB.out.drew.trans (hw'.mono HB.out.size)) hbl HA1.out
                try have g2 := cellB' (HB.out.drew.trans (hw'.mono HB.out.size)) hbl2 HC0.out
                try have g3 := cellB' (HB.out.drew.trans (hw'.mono HB.out.size)) hbl2 HC1.out
                try have g4 := S1.out _ (HB.out.drew.trans (hw'.mono HB.out.size))
                try have g5 := S2.out _ (HB.out.drew.trans (hw'.mono HB.out.size))
                go_simp
                with_reducible rfl
              simp only [Act.put, List.setIfInBounds_toArray, List.set_cons_zero, List.set_cons_succ]
              -- 31: slot 101
              refine wpG_take preGr (i := 31) (v := ?_) (by kernel_rfl) (some 101) (by kernel_rfl) rfl (by kernel_rfl) (by kernel_rfl) (by kernel_rfl) (fun _ _ _ h => h) (by rfl) (fun w' hw' => ?_) rfl ?_
              rotate_left
              · try have g0 := cellB' (HB.out.drew.trans (hw'.mono HB.out.size)) hbl HA0.out
                try have g1 := cellB' (HB.out.drew.trans (hw'.mono HB.out.size)) hbl HA1.out
                try have g2 := cellB' (HB.out.drew.trans (hw'.mono HB.out.size)) hbl2 HC0.out
                try have g3 := cellB' (HB.out.drew.trans (hw'.mono HB.out.size)) hbl2 HC1.out
                try have g4 := S1.out _ (HB.out.drew.trans (hw'.mono HB.out.size))
                try have g5 := S2.out _ (HB.out.drew.trans (hw'.mono HB.out.size))
                go_simp
                with_reducible rfl
              simp only [Act.put, List.setIfInBounds_toArray, List.set_cons_zero, List.set_cons_succ]
              refine wpG_done (by kernel_rfl) ?_ _
              have HRO3 := Lib.hid (HRO.out.gr (Gr.drew wr))
              have HB3 : Hid (Below w.heap.size w wr.drew) := HB.out.drew
              generalize wr.drew = w3 at HB3 HRO3 ⊢
              go_wp2
              go_roundw
              case rel =>
                have HX : (strike ((plain qs).take (i + 1)) (plain ts)).2 = (plain ts).drop (d + 1) := by rw [HSN2.out]
                have HY : RO w w3 w.heap.size lv (strike ((plain qs).take (i + 1)) (plain ts)).1 := by rw [HSN2.out]; exact HRO3.out
                first | exact ⟨i + 1, d + 1, _, by omega, by omega, by go_num, by go_num, rfl, HX, HY, HB3.out⟩ | ((repeat apply Exists.intro); exact ⟨⟨i + 1, d + 1, _, by omega, by omega, by go_num, by go_num, rfl, HX, HY, HB3.out⟩, rfl⟩)
              case measure => simp [intOf]; omega
            · have hxe := bytes_ne hx
              have HKEEP : Hid ((strike ((plain qs).take (i + 1)) (plain ts)).1 = (strike ((plain qs).take i) (plain ts)).1 ++ [(T, l)] ∧ (strike ((plain qs).take (i + 1)) (plain ts)).2 = (plain ts).drop d) := by
                show _ ∧ _
                rw [HSN.out, HDR.out]
                unfold strO strR
                simp only
                rw [if_neg (fun e => hx (congrArg Prod.snd e)), if_neg (fun e => hx (congrArg Prod.snd e))]
                exact ⟨rfl, rfl⟩
              have ht2 := ht.symm
              clear ht hte hx
              subst ht2
              go_upto_region 20 with fail
              refine wp_region_G 32 Gr (by kernel_rfl) ?_
              -- 0: slot 70
              refine wpG_take preGr (i := 0) (v := ?_) (by kernel_rfl) (some 70) (by kernel_rfl) rfl (by kernel_rfl) (by kernel_rfl) (by kernel_rfl) (fun _ _ _ h => h) (by rfl) (fun w' hw' => ?_) rfl ?_
              rotate_left
              · try have g0 := cellB' (HB.out.drew.trans (hw'.mono HB.out.size)) hbl HA0.out
                try have g1 := cellB' (HB.out.drew.trans (hw'.mono HB.out.size)) hbl HA1.out
                try have g2 := cellB' (HB.out.drew.trans (hw'.mono HB.out.size)) hbl2 HC0.out
                try have g3 := cellB' (HB.out.drew.trans (hw'.mono HB.out.size)) hbl2 HC1.out
                try have g4 := S1.out _ (HB.out.drew.trans (hw'.mono HB.out.size))
                try have g5 := S2.out _ (HB.out.drew.trans (hw'.mono HB.out.size))
                go_simp
                with_reducible rfl
              simp only [Act.put, List.setIfInBounds_toArray, List.set_cons_zero, List.set_cons_succ]
              -- 1: slot 71
              refine wpG_take preGr (i := 1) (v := ?_) (by kernel_rfl) (some 71) (by kernel_rfl) rfl (by kernel_rfl) (by kernel_rfl) (by kernel_rfl) (fun _ _ _ h => h) (by rfl) (fun w' hw' => ?_) rfl ?_
              rotate_left
              · try have g0 := cellB' (HB.out.drew.trans (hw'.mono HB.out.size)) hbl HA0.out
                try have g1 := cellB' (HB.out.drew.trans (hw'.mono HB.out.size)) hbl HA1.out
                try have g2 := cellB' (HB.out.drew.trans (hw'.mono HB.out.size)) hbl2 HC0.out
                try have g3 := cellB' (HB.out.drew.trans (hw'.mono HB.out.size)) hbl2 HC1.out
                try have g4 := S1.out _ (HB.out.drew.trans (hw'.mono HB.out.size))
                try have g5 := S2.out _ (HB.out.drew.trans (hw'.mono HB.out.size))
                go_simp
                with_reducible rfl
              simp only [Act.put, List.setIfInBounds_toArray, List.set_cons_zero, List.set_cons_succ]
              -- 2: slot 72
              refine wpG_take preGr (i := 2) (v := ?_) (by kernel_rfl) (some 72) (by kernel_rfl) rfl (by kernel_rfl) (by kernel_rfl) (by kernel_rfl) (fun _ _ _ h => h) (by rfl) (fun w' hw' => ?_) rfl ?_
              rotate_left
              · try have g0 := cellB' (HB.out.drew.trans (hw'.mono HB.out.size)) hbl HA0.out
                try have g1 := cellB' (HB.out.drew.trans (hw'.mono HB.out.size)) hbl HA1.out
                try have g2 := cellB' (HB.out.drew.trans (hw'.mono HB.out.size)) hbl2 HC0.out
                try have g3 := cellB' (HB.out.drew.trans (hw'.mono HB.out.size)) hbl2 HC1.out
                try have g4 := S1.out _ (HB.out.drew.trans (hw'.mono HB.out.size))
                try have g5 := S2.out _ (HB.out.drew.trans (hw'.mono HB.out.size))
                go_simp
                with_reducible rfl
              simp only [Act.put, List.setIfInBounds_toArray, List.set_cons_zero, List.set_cons_succ]
              -- 3: slot 73
              refine wpG_take preGr (i := 3) (v := ?_) (by kernel_rfl) (some 73) (by kernel_rfl) rfl (by kernel_rfl) (by kernel_rfl) (by kernel_rfl) (fun _ _ _ h => h) (by rfl) (fun w' hw' => ?_) rfl ?_
              rotate_left
              · try have g0 := cellB' (HB.out.drew.trans (hw'.mono HB.out.size)) hbl HA0.out
                try have g1 := cellB' (HB.out.drew.trans (hw'.mono HB.out.size)) hbl HA1.out
                try have g2 := cellB' (HB.out.drew.trans (hw'.mono HB.out.size)) hbl2 HC0.out
                try have g3 := cellB' (HB.out.drew.trans (hw'.mono HB.out.size)) hbl2 HC1.out
                try have g4 := S1.out _ (HB.out.drew.trans (hw'.mono HB.out.size))
                try have g5 := S2.out _ (HB.out.drew.trans (hw'.mono HB.out.size))
                go_simp
                with_reducible rfl
              simp only [Act.put, List.setIfInBounds_toArray, List.set_cons_zero, List.set_cons_succ]
              -- 4: slot 74
              refine wpG_take preGr (i := 4) (v := ?_) (by kernel_rfl) (some 74) (by kernel_rfl) rfl (by kernel_rfl) (by kernel_rfl) (by kernel_rfl) (fun _ _ _ h => h) (by rfl) (fun w' hw' => ?_) rfl ?_
              rotate_left
              · try have g0 := cellB' (HB.out.drew.trans (hw'.mono HB.out.size)) hbl HA0.out
                try have g1 := cellB' (HB.out.drew.trans (hw'.mono HB.out.size)) hbl HA1.out
                try have g2 := cellB' (HB.out.drew.trans (hw'.mono HB.out.size)) hbl2 HC0.out
                try have g3 := cellB' (HB.out.drew.trans (hw'.mono HB.out.size)) hbl2 HC1.out
                try have g4 := S1.out _ (HB.out.drew.trans (hw'.mono HB.out.size))
                try have g5 := S2.out _ (HB.out.drew.trans (hw'.mono HB.out.size))
                go_simp
                with_reducible rfl
              simp only [Act.put, List.setIfInBounds_toArray, List.set_cons_zero, List.set_cons_succ]
              -- 5: slot 75
              refine wpG_take preGr (i := 5) (v := ?_) (by kernel_rfl) (some 75) (by kernel_rfl) rfl (by kernel_rfl) (by kernel_rfl) (by kernel_rfl) (fun _ _ _ h => h) (by rfl) (fun w' hw' => ?_) rfl ?_
              rotate_left
              · try have g0 := cellB' (HB.out.drew.trans (hw'.mono HB.out.size)) hbl HA0.out
                try have g1 := cellB' (HB.out.drew.trans (hw'.mono HB.out.size)) hbl HA1.out
                try have g2 := cellB' (HB.out.drew.trans (hw'.mono HB.out.size)) hbl2 HC0.out
                try have g3 := cellB' (HB.out.drew.trans (hw'.mono HB.out.size)) hbl2 HC1.out
                try have g4 := S1.out _ (HB.out.drew.trans (hw'.mono HB.out.size))
                try have g5 := S2.out _ (HB.out.drew.trans (hw'.mono HB.out.size))
                go_simp
                with_reducible rfl
              simp only [Act.put, List.setIfInBounds_toArray, List.set_cons_zero, List.set_cons_succ]
              -- 6: slot 76
              refine wpG_take preGr (i := 6) (v := ?_) (by kernel_rfl) (some 76) (by kernel_rfl) rfl (by kernel_rfl) (by kernel_rfl) (by kernel_rfl) (fun _ _ _ h => h) (by rfl) (fun w' hw' => ?_) rfl ?_
              rotate_left
              · try have g0 := cellB' (HB.out.drew.trans (hw'.mono HB.out.size)) hbl HA0.out
                try have g1 := cellB' (HB.out.drew.trans (hw'.mono HB.out.size)) hbl HA1.out
                try have g2 := cellB' (HB.out.drew.trans (hw'.mono HB.out.size)) hbl2 HC0.out
                try have g3 := cellB' (HB.out.drew.trans (hw'.mono HB.out.size)) hbl2 HC1.out
                try have g4 := S1.out _ (HB.out.drew.trans (hw'.mono HB.out.size))
                try have g5 := S2.out _ (HB.out.drew.trans (hw'.mono HB.out.size))
                go_simp
                with_reducible rfl
              simp only [Act.put, List.setIfInBounds_toArray, List.set_cons_zero, List.set_cons_succ]
              -- 7: slot 77
              refine wpG_take preGr (i := 7) (v := ?_) (by kernel_rfl) (some 77) (by kernel_rfl) rfl (by kernel_rfl) (by kernel_rfl) (by kernel_rfl) (fun _ _ _ h => h) (by rfl) (fun w' hw' => ?_) rfl ?_
              rotate_left
              · try have g0 := cellB' (HB.out.drew.trans (hw'.mono HB.out.size)) hbl HA0.out
                try have g1 := cellB' (HB.out.drew.trans (hw'.mono HB.out.size)) hbl HA1.out
                try have g2 := cellB' (HB.out.drew.trans (hw'.mono HB.out.size)) hbl2 HC0.out
                try have g3 := cellB' (HB.out.drew.trans (hw'.mono HB.out.size)) hbl2 HC1.out
                try have g4 := S1.out _ (HB.out.drew.trans (hw'.mono HB.out.size))
                try have g5 := S2.out _ (HB.out.drew.trans (hw'.mono HB.out.size))
                go_simp
                with_reducible rfl
              simp only [Act.put, List.setIfInBounds_toArray, List.set_cons_zero, List.set_cons_succ]
              -- 8: slot 78
              refine wpG_take preGr (i := 8) (v := ?_) (by kernel_rfl) (some 78) (by kernel_rfl) rfl (by kernel_rfl) (by kernel_rfl) (by kernel_rfl) (fun _ _ _ h => h) (by rfl) (fun w' hw' => ?_) rfl ?_
              rotate_left
              · try have g0 := cellB' (HB.out.drew.trans (hw'.mono HB.out.size)) hbl HA0.out
                try have g1 := cellB' (HB.out.drew.trans (hw'.mono HB.out.size)) hbl HA1.out
                try have g2 := cellB' (HB.out.drew.trans (hw'.mono HB.out.size)) hbl2 HC0.out
                try have g3 := cellB' (HB.out.drew.trans (hw'.mono HB.out.size)) hbl2 HC1.out
                try have g4 := S1.out _ (HB.out.drew.trans (hw'.mono HB.out.size))
                try have g5 := S2.out _ (HB.out.drew.trans (hw'.mono HB.out.size))
                go_simp
                with_reducible rfl
              simp only [Act.put, List.setIfInBounds_toArray, List.set_cons_zero, List.set_cons_succ]
              -- 9: slot 79
              refine wpG_take preGr (i := 9) (v := ?_) (by kernel_rfl) (some 79) (by kernel_rfl) rfl (by kernel_rfl) (by kernel_rfl) (by kernel_rfl) (fun _ _ _ h => h) (by rfl) (fun w' hw' => ?_) rfl ?_
              rotate_left
              · try have g0 := cellB' (HB.out.drew.trans (hw'.mono HB.out.size)) hbl HA0.out
                try have g1 := cellB' (HB.out.drew.trans (hw'.mono HB.out.size)) hbl HA1.out
                try have g2 := cellB' (HB.out.drew.trans (hw'.mono HB.out.size)) hbl2 HC0.out
                try have g3 := cellB' (HB.out.drew.trans (hw'.mono HB.out.size)) hbl2 HC1.out
                try have g4 := S1.out _ (HB.out.drew.trans (hw'.mono HB.out.size))
                try have g5 := S2.out _ (HB.out.drew.trans (hw'.mono HB.out.size))
                go_simp
                with_reducible rfl
              simp only [Act.put, List.setIfInBounds_toArray, List.set_cons_zero, List.set_cons_succ]
              -- 10: slot 80
              refine wpG_take preGr (i := 10) (v := ?_) (by kernel_rfl) (some 80) (by kernel_rfl) rfl (by kernel_rfl) (by kernel_rfl) (by kernel_rfl) (fun _ _ _ h => h) (by rfl) (fun w' hw' => ?_) rfl ?_
              rotate_left
              · try have g0 := cellB' (HB.out.drew.trans (hw'.mono HB.out.size)) hbl HA0.out
                try have g1 := cellB' (HB.out.drew.trans (hw'.mono HB.out.size)) hbl HA1.out
                try have g2 := cellB' (HB.out.drew.trans (hw'.mono HB.out.size)) hbl2 HC0.out
                try have g3 := cellB' (HB.out.drew.trans (hw'.mono HB.out.size)) hbl2 HC1.out
                try have g4 := S1.out _ (HB.out.drew.trans (hw'.mono HB.out.size))
                try have g5 := S2.out _ (HB.out.drew.trans (hw'.mono HB.out.size))
                go_simp
                with_reducible rfl
              simp only [Act.put, List.setIfInBounds_toArray, List.set_cons_zero, List.set_cons_succ]
              -- 11: slot 81
              refine wpG_take preGr (i := 11) (v := ?_) (by kernel_rfl) (some 81) (by kernel_rfl) rfl (by kernel_rfl) (by kernel_rfl) (by kernel_rfl) (fun _ _ _ h => h) (by rfl) (fun w' hw' => ?_) rfl ?_
              rotate_left
              · try have g0 := cellB' (HB.out.drew.trans (hw'.mono HB.out.size)) hbl HA0.out
                try have g1 := cellB' (HB.out.drew.trans (hw'.mono HB.out.size)) hbl HA1.out
                try have g2 := cellB' (HB.out.drew.trans (hw'.mono HB.out.size)) hbl2 HC0.out
                try have g3 := cellB' (HB.out.drew.trans (hw'.mono HB.out.size)) hbl2 HC1.out
                try have g4 := S1.out _ (HB.out.drew.trans (hw'.mono HB.out.size))
                try have g5 := S2.out _ (HB.out.drew.trans (hw'.mono HB.out.size))
                go_simp
                with_reducible rfl
              simp only [Act.put, List.setIfInBounds_toArray, List.set_cons_zero, List.set_cons_succ]
              -- 12: slot 82
              refine wpG_take preGr (i := 12) (v := ?_) (by kernel_rfl) (some 82) (by kernel_rfl) rfl (by kernel_rfl) (by kernel_rfl) (by kernel_rfl) (fun _ _ _ h => h) (by rfl) (fun w' hw' => ?_) rfl ?_
              rotate_left
              · try have g0 := cellB' (HB.out.drew.trans (hw'.mono HB.out.size)) hbl HA0.out
                try have g1 := cellB' (HB.out.drew.trans (hw'.mono HB.out.size)) hbl HA1.out
                try have g2 := cellB' (HB.out.drew.trans (hw'.mono HB.out.size)) hbl2 HC0.out
                try have g3 := cellB' (HB.out.drew.trans (hw'.mono HB.out.size)) hbl2 HC1.out
                try have g4 := S1.out _ (HB.out.drew.trans (hw'.mono HB.out.size))
                try have g5 := S2.out _ (HB.out.drew.trans (hw'.mono HB.out.size))
                go_simp
                with_reducible rfl
              simp only [Act.put, List.setIfInBounds_toArray, List.set_cons_zero, List.set_cons_succ]
              -- 13: slot 83
              refine wpG_take preGr (i := 13) (v := ?_) (by kernel_rfl) (some 83) (by kernel_rfl) rfl (by kernel_rfl) (by kernel_rfl) (by kernel_rfl) (fun _ _ _ h => h) (by rfl) (fun w' hw' => ?_) rfl ?_
              rotate_left
              · try have g0 := cellB' (HB.out.drew.trans (hw'.mono HB.out.size)) hbl HA0.out
                try have g1 := cellB' (HB.out.drew.trans (hw'.mono HB.out.size)) hbl HA1.out
                try have g2 := cellB' (HB.out.drew.trans (hw'.mono HB.out.size)) hbl2 HC0.out
                try have g3 := cellB' (HB.out.drew.trans (hw'.mono HB.out.size)) hbl2 HC1.out
                try have g4 := S1.out _ (HB.out.drew.trans (hw'.mono HB.out.size))
                try have g5 := S2.out _ (HB.out.drew.trans (hw'.mono HB.out.size))
                go_simp
                with_reducible rfl
              simp only [Act.put, List.setIfInBounds_toArray, List.set_cons_zero, List.set_cons_succ]
              -- 14: slot 84
              refine wpG_take preGr (i := 14) (v := ?_) (by kernel_rfl) (some 84) (by kernel_rfl) rfl (by kernel_rfl) (by kernel_rfl) (by kernel_rfl) (fun _ _ _ h => h) (by rfl) (fun w' hw' => ?_) rfl ?_
              rotate_left
              · try have g0 := cellB' (HB.out.drew.trans (hw'.mono HB.out.size)) hbl HA0.out
                try have g1 := cellB' (HB.out.drew.trans (hw'.mono HB.out.size)) hbl HA1.out
                try have g2 := cellB' (HB.out.drew.trans (hw'.mono HB.out.size)) hbl2 HC0.out
                try have g3 := cellB' (HB.out.drew.trans (hw'.mono HB.out.size)) hbl2 HC1.out
                try have g4 := S1.out _ (HB.out.drew.trans (hw'.mono HB.out.size))
                try have g5 := S2.out _ (HB.out.drew.trans (hw'.mono HB.out.size))
                go_simp
                with_reducible rfl
              simp only [Act.put, List.setIfInBounds_toArray, List.set_cons_zero, List.set_cons_succ]
              -- 15: slot 85
              refine wpG_take preGr (i := 15) (v := ?_) (by kernel_rfl) (some 85) (by kernel_rfl) rfl (by kernel_rfl) (by kernel_rfl) (by kernel_rfl) (fun _ _ _ h => h) (by rfl) (fun w' hw' => ?_) rfl ?_
              rotate_left
              · try have g0 := cellB' (HB.out.drew.trans (hw'.mono HB.out.size)) hbl HA0.out
                try have g1 := cellB' (HB.out.drew.trans (hw'.mono HB.out.size)) hbl HA1.out
                try have g2 := cellB' (HB.out.drew.trans (hw'.mono HB.out.size)) hbl2 HC0.out
                try have g3 := cellB' (HB.out.drew.trans (hw'.mono HB.out.size)) hbl2 HC1.out
                try have g4 := S1.out _ (HB.out.drew.trans (hw'.mono HB.out.size))
                try have g5 := S2.out _ (HB.out.drew.trans (hw'.mono HB.out.size))
                go_simp
                with_reducible rfl
              simp only [Act.put, List.setIfInBounds_toArray, List.set_cons_zero, List.set_cons_succ]
              -- 16: slot 86
              refine wpG_take preGr (i := 16) (v := ?_) (by kernel_rfl) (some 86) (by kernel_rfl) rfl (by kernel_rfl) (by kernel_rfl) (by kernel_rfl) (fun _ _ _ h => h) (by rfl) (fun w' hw' => ?_) rfl ?_
              rotate_left
              · try have g0 := cellB' (HB.out.drew.trans (hw'.mono HB.out.size)) hbl HA0.out
                try have g1 := cellB' (HB.out.drew.trans (hw'.mono HB.out.size)) hbl HA1.out
                try have g2 := cellB' (HB.out.drew.trans (hw'.mono HB.out.size)) hbl2 HC0.out
                try have g3 := cellB' (HB.out.drew.trans (hw'.mono HB.out.size)) hbl2 HC1.out
                try have g4 := S1.out _ (HB.out.drew.trans (hw'.mono HB.out.size))
                try have g5 := S2.out _ (HB.out.drew.trans (hw'.mono HB.out.size))
                go_simp
                with_reducible rfl
              simp only [Act.put, List.setIfInBounds_toArray, List.set_cons_zero, List.set_cons_succ]
              -- 17: slot 87
              refine wpG_take preGr (i := 17) (v := ?_) (by kernel_rfl) (some 87) (by kernel_rfl) rfl (by kernel_rfl) (by kernel_rfl) (by kernel_rfl) (fun _ _ _ h => h) (by rfl) (fun w' hw' => ?_) rfl ?_
              rotate_left
              · try have g0 := cellB' (HB.out.drew.trans (hw'.mono HB.out.size)) hbl HA0.out
                try have g1 := cellB' (HB.out.drew.trans (hw'.mono HB.out.size)) hbl HA1.out
                try have g2 := cellB' (HB.out.drew.trans (hw'.mono HB.out.size)) hbl2 HC0.out
                try have g3 := cellB' (HB.out.drew.trans (hw'.mono HB.out.size)) hbl2 HC1.out
                try have g4 := S1.out _ (HB.out.drew.trans (hw'.mono HB.out.size))
                try have g5 := S2.out _ (HB.out.drew.trans (hw'.mono HB.out.size))
                go_simp
                with_reducible rfl
              simp only [Act.put, List.setIfInBounds_toArray, List.set_cons_zero, List.set_cons_succ]
              -- 18: slot 88
              refine wpG_take preGr (i := 18) (v := ?_) (by kernel_rfl) (some 88) (by kernel_rfl) rfl (by kernel_rfl) (by kernel_rfl) (by kernel_rfl) (fun _ _ _ h => h) (by rfl) (fun w' hw' => ?_) rfl ?_
              rotate_left
              · try have g0 := cellB' (HB.out.drew.trans (hw'.mono HB.out.size)) hbl HA0.out
                try have g1 := cellB' (HB.out.drew.trans (hw'.mono HB.out.size)) hbl HA1.out
                try have g2 := cellB' (HB.out.drew.trans (hw'.mono HB.out.size)) hbl2 HC0.out
                try have g3 := cellB' (HB.out.drew.trans (hw'.mono HB.out.size)) hbl2 HC1.out
                try have g4 := S1.out _ (HB.out.drew.trans (hw'.mono HB.out.size))
                try have g5 := S2.out _ (HB.out.drew.trans (hw'.mono HB.out.size))
                go_simp
                with_reducible rfl
              simp only [Act.put, List.setIfInBounds_toArray, List.set_cons_zero, List.set_cons_succ]
              -- 19: slot 89
              refine wpG_take preGr (i := 19) (v := ?_) (by kernel_rfl) (some 89) (by kernel_rfl) rfl (by kernel_rfl) (by kernel_rfl) (by kernel_rfl) (fun _ _ _ h => h) (by rfl) (fun w' hw' => ?_) rfl ?_
              rotate_left
              · try have g0 := cellB' (HB.out.drew.trans (hw'.mono HB.out.size)) hbl HA0.out
                try have g1 := cellB' (HB.out.drew.trans (hw'.mono HB.out.size)) hbl HA1.out
                try have g2 := cellB' (HB.out.drew.trans (hw'.mono HB.out.size)) hbl2 HC0.out
                try have g3 := cellB' (HB.out.drew.trans (hw'.mono HB.out.size)) hbl2 HC1.out
                try have g4 := S1.out _ (HB.out.drew.trans (hw'.mono HB.out.size))
                try have g5 := S2.out _ (HB.out.drew.trans (hw'.mono HB.out.size))
                go_simp
                with_reducible rfl
              simp only [Act.put, List.setIfInBounds_toArray, List.set_cons_zero, List.set_cons_succ]
              -- 20: slot 90
              refine wpG_take preGr (i := 20) (v := ?_) (by kernel_rfl) (some 90) (by kernel_rfl) rfl (by kernel_rfl) (by kernel_rfl) (by kernel_rfl) (fun _ _ _ h => h) (by rfl) (fun w' hw' => ?_) rfl ?_
              rotate_left
              · try have g0 := cellB' (HB.out.drew.trans (hw'.mono HB.out.size)) hbl HA0.out
                try have g1 := cellB' (HB.out.drew.trans (hw'.mono HB.out.size)) hbl HA1.out
                try have g2 := cellB' (HB.out.drew.trans (hw'.mono HB.out.size)) hbl2 HC0.out
                try have g3 := cellB' (HB.out.drew.trans (hw'.mono HB.out.size)) hbl2 HC1.out
                try have g4 := S1.out _ (HB.out.drew.trans (hw'.mono HB.out.size))
                try have g5 := S2.out _ (HB.out.drew.trans (hw'.mono HB.out.size))
                go_simp
                with_reducible rfl
              simp only [Act.put, List.setIfInBounds_toArray, List.set_cons_zero, List.set_cons_succ]
              -- 21: slot 91
              refine wpG_take preGr (i := 21) (v := ?_) (by kernel_rfl) (some 91) (by kernel_rfl) rfl (by kernel_rfl) (by kernel_rfl) (by kernel_rfl) (fun _ _ _ h => h) (by rfl) (fun w' hw' => ?_) rfl ?_
              rotate_left
              · try have g0 := cellB' (HB.out.drew.trans (hw'.mono HB.out.size)) hbl HA0.out
                try have g1 := cellB' (HB.out.drew.trans (hw'.mono HB.out.size)) hbl HA1.out
                try have g2 := cellB' (HB.out.drew.trans (hw'.mono HB.out.size)) hbl2 HC0.out
                try have g3 := cellB' (HB.out.drew.trans (hw'.mono HB.out.size)) hbl2 HC1.out
                try have g4 := S1.out _ (HB.out.drew.trans (hw'.mono HB.out.size))
                try have g5 := S2.out _ (HB.out.drew.trans (hw'.mono HB.out.size))
                go_simp
                with_reducible rfl
              simp only [Act.put, List.setIfInBounds_toArray, List.set_cons_zero, List.set_cons_succ]
              -- 22: slot 92
              refine wpG_take preGr (i := 22) (v := ?_) (by kernel_rfl) (some 92) (by kernel_rfl) rfl (by kernel_rfl) (by kernel_rfl) (by kernel_rfl) (fun _ _ _ h => h) (by rfl) (fun w' hw' => ?_) rfl ?_
              rotate_left
              · try have g0 := cellB' (HB.out.drew.trans (hw'.mono HB.out.size)) hbl HA0.out
                try have g1 := cellB' (HB.out.drew.trans (hw'.mono HB.out.size)) hbl HA1.out
                try have g2 := cellB' (HB.out.drew.trans (hw'.mono HB.out.size)) hbl2 HC0.out
                try have g3 := cellB' (HB.out.drew.trans (hw'.mono HB.out.size)) hbl2 HC1.out
                try have g4 := S1.out _ (HB.out.drew.trans (hw'.mono HB.out.size))
                try have g5 := S2.out _ (HB.out.drew.trans (hw'.mono HB.out.size))
                go_simp
                with_reducible rfl
              simp only [Act.put, List.setIfInBounds_toArray, List.set_cons_zero, List.set_cons_succ]
              -- 23: slot 93
              refine wpG_take preGr (i := 23) (v := ?_) (by kernel_rfl) (some 93) (by kernel_rfl) rfl (by kernel_rfl) (by kernel_rfl) (by kernel_rfl) (fun _ _ _ h => h) (by rfl) (fun w' hw' => ?_) rfl ?_
              rotate_left
              · try have g0 := cellB' (HB.out.drew.trans (hw'.mono HB.out.size)) hbl HA0.out
                try have g1 := cellB' (HB.out.drew.trans (hw'.mono HB.out.size)) hbl HA1.out
                try have g2 := cellB' (HB.out.drew.trans (hw'.mono HB.out.size)) hbl2 HC0.out
                try have g3 := cellB' (HB.out.drew.trans (hw'.mono HB.out.size)) hbl2 HC1.out
                try have g4 := S1.out _ (HB.out.drew.trans (hw'.mono HB.out.size))
                try have g5 := S2.out _ (HB.out.drew.trans (hw'.mono HB.out.size))
                go_simp
                with_reducible rfl
              simp only [Act.put, List.setIfInBounds_toArray, List.set_cons_zero, List.set_cons_succ]
              -- 24: slot 94
              refine wpG_take preGr (i := 24) (v := ?_) (by kernel_rfl) (some 94) (by kernel_rfl) rfl (by kernel_rfl) (by kernel_rfl) (by kernel_rfl) (fun _ _ _ h => h) (by rfl) (fun w' hw' => ?_) rfl ?_
              rotate_left
              · try have g0 := cellB' (HB.out.drew.trans (hw'.mono HB.out.size)) hbl HA0.out
                try have g1 := cellB' (HB.out.drew.trans (hw'.mono HB.out.size)) hbl HA1.out
                try have g2 := cellB' (HB.out.drew.trans (hw'.mono HB.out.size)) hbl2 HC0.out
                try have g3 := cellB' (HB.out.drew.trans (hw'.mono HB.out.size)) hbl2 HC1.out
                try have g4 := S1.out _ (HB.out.drew.trans (hw'.mono HB.out.size))
                try have g5 := S2.out _ (HB.out.drew.trans (hw'.mono HB.out.size))
                go_simp
                with_reducible rfl
              simp only [Act.put, List.setIfInBounds_toArray, List.set_cons_zero, List.set_cons_succ]
              -- 25: slot 95
              refine wpG_take preGr (i := 25) (v := ?_) (by kernel_rfl) (some 95) (by kernel_rfl) rfl (by kernel_rfl) (by kernel_rfl) (by kernel_rfl) (fun _ _ _ h => h) (by rfl) (fun w' hw' => ?_) rfl ?_
              rotate_left
              · try have g0 := cellB' (HB.out.drew.trans (hw'.mono HB.out.size)) hbl HA0.out
                try have g1 := cellB' (HB.out.drew.trans (hw'.mono HB.out.size)) hbl HA1.out
                try have g2 := cellB' (HB.out.drew.trans (hw'.mono HB.out.size)) hbl2 HC0.out
                try have g3 := cellB' (HB.out.drew.trans (hw'.mono HB.out.size)) hbl2 HC1.out
                try have g4 := S1.out _ (HB.out.drew.trans (hw'.mono HB.out.size))
                try have g5 := S2.out _ (HB.out.drew.trans (hw'.mono HB.out.size))
                go_simp
                with_reducible rfl
              simp only [Act.put, List.setIfInBounds_toArray, List.set_cons_zero, List.set_cons_succ]
              -- 26: slot 96
              refine wpG_take preGr (i := 26) (v := ?_) (by kernel_rfl) (some 96) (by kernel_rfl) rfl (by kernel_rfl) (by kernel_rfl) (by kernel_rfl) (fun _ _ _ h => h) (by rfl) (fun w' hw' => ?_) rfl ?_
              rotate_left
              · try have g0 := cellB' (HB.out.drew.trans (hw'.mono HB.out.size)) hbl HA0.out
                try have g1 := cellB' (HB.out.drew.trans (hw'.mono HB.out.size)) hbl HA1.out
                try have g2 := cellB' (HB.out.drew.trans (hw'.mono HB.out.size)) hbl2 HC0.out
                try have g3 := cellB' (HB.out.drew.trans (hw'.mono HB.out.size)) hbl2 HC1.out
                try have g4 := S1.out _ (HB.out.drew.trans (hw'.mono HB.out.size))
                try have g5 := S2.out _ (HB.out.drew.trans (hw'.mono HB.out.size))
                go_simp
                with_reducible rfl
              simp only [Act.put, List.setIfInBounds_toArray, List.set_cons_zero, List.set_cons_succ]
              -- 27: slot 97
              refine wpG_take preGr (i := 27) (v := ?_) (by kernel_rfl) (some 97) (by kernel_rfl) rfl (by kernel_rfl) (by kernel_rfl) (by kernel_rfl) (fun _ _ _ h => h) (by rfl) (fun w' hw' => ?_) rfl ?_
              rotate_left
              · try have g0 := cellB' (HB.out.drew.trans (hw'.mono HB.out.size)) hbl HA0.out
                try have g1 := cellB' (HB.out.drew.trans (hw'.mono HB.out.size)) hbl HA1.out
                try have g2 := cellB' (HB.out.drew.trans (hw'.mono HB.out.size)) hbl2 HC0.out
                try have g3 := cellB' (HB.out.drew.trans (hw'.mono HB.out.size)) hbl2 HC1.out
                try have g4 := S1.out _ (HB.out.drew.trans (hw'.mono HB.out.size))
                try have g5 := S2.out _ (HB.out.drew.trans (hw'.mono HB.out.size))
                go_simp
                with_reducible rfl
              simp only [Act.put, List.setIfInBounds_toArray, List.set_cons_zero, List.set_cons_succ]
              -- 28: slot 98
              refine wpG_take preGr (i := 28) (v := ?_) (by kernel_rfl) (some 98) (by kernel_rfl) rfl (by kernel_rfl) (by kernel_rfl) (by kernel_rfl) (fun _ _ _ h => h) (by rfl) (fun w' hw' => ?_) rfl ?_
              rotate_left
              · try have g0 := cellB' (HB.out.drew.trans (hw'.mono HB.out.size)) hbl HA0.out
                try have g1 := cellB' (HB.out.drew.trans (hw'.mono HB.out.size)) hbl HA1.out
                try have g2 := cellB' (HB.out.drew.trans (hw'.mono HB.out.size)) hbl2 HC0.out
                try have g3 := cellB' (HB.out.drew.trans (hw'.mono HB.out.size)) hbl2 HC1.out
                try have g4 := S1.out _ (HB.out.drew.trans (hw'.mono HB.out.size))
                try have g5 := S2.out _ (HB.out.drew.trans (hw'.mono HB.out.size))
                go_simp
                with_reducible rfl
              simp only [Act.put, List.setIfInBounds_toArray, List.set_cons_zero, List.set_cons_succ]
              -- 29: slot 99
              refine wpG_take preGr (i := 29) (v := ?_) (by kernel_rfl) (some 99) (by kernel_rfl) rfl (by kernel_rfl) (by kernel_rfl) (by kernel_rfl) (fun _ _ _ h => h) (by rfl) (fun w' hw' => ?_) rfl ?_
              rotate_left
              · try have g0 := cellB' (HB.out.drew.trans (hw'.mono HB.out.size)) hbl HA0.out
                try have g1 := cellB' (HB.out.drew.trans (hw'.mono HB.out.size)) hbl HA1.out
                try have g2 := cellB' (HB.out.drew.trans (hw'.mono HB.out.size)) hbl2 HC0.out
                try have g3 := cellB' (HB.out.drew.trans (hw'.mono HB.out.size)) hbl2 HC1.out
                try have g4 := S1.out _ (HB.out.drew.trans (hw'.mono HB.out.size))
                try have g5 := S2.out _ (HB.out.drew.trans (hw'.mono HB.out.size))
                go_simp
                with_reducible rfl
              simp only [Act.put, List.setIfInBounds_toArray, List.set_cons_zero, List.set_cons_succ]
              -- 30: slot 100
              refine wpG_take preGr (i := 30) (v := ?_) (by kernel_rfl) (some 100) (by kernel_rfl) rfl (by kernel_rfl) (by kernel_rfl) (by kernel_rfl) (fun _ _ _ h => h) (by rfl) (fun w' hw' => ?_) rfl ?_
              rotate_left
              · try have g0 := cellB' (HB.out.drew.trans (hw'.mono HB.out.size)) hbl HA0.out
                try have g1 := cellB' (HB.out.drew.trans (hw'.mono HB.out.size)) hbl HA1.out
                try have g2 := cellB' (HB.out.drew.trans (hw'.mono HB.out.size)) hbl2 HC0.out
                try have g3 := cellB' (HB.out.drew.trans (hw'.mono HB.out.size)) hbl2 HC1.out
                try have g4 := S1.out _ (HB.out.drew.trans (hw'.mono HB.out.size))
                try have g5 := S2.out _ (HB.out.drew.trans (hw'.mono HB.out.size))
                go_simp
                with_reducible rfl
              simp only [Act.put, List.setIfInBounds_toArray, List.set_cons_zero, List.set_cons_succ]
              -- 31: slot 101
              refine wpG_take preGr (i := 31) (v := ?_) (by kernel_rfl) (some 101) (by kernel_rfl) rfl (by kernel_rfl) (by kernel_rfl) (by kernel_rfl) (fun _ _ _ h => h) (by rfl) (fun w' hw' => ?_) rfl ?_
              rotate_left
              · try have g0 := cellB' (HB.out.drew.trans (hw'.mono HB.out.size)) hbl HA0.out
                try have g1 := cellB' (HB.out.drew.trans (hw'.mono HB.out.size)) hbl HA1.out
                try have g2 := cellB' (HB.out.drew.trans (hw'.mono HB.out.size)) hbl2 HC0.out
                try have g3 := cellB' (HB.out.drew.trans (hw'.mono HB.out.size)) hbl2 HC1.out
                try have g4 := S1.out _ (HB.out.drew.trans (hw'.mono HB.out.size))
                try have g5 := S2.out _ (HB.out.drew.trans (hw'.mono HB.out.size))
                go_simp
                with_reducible rfl
              simp only [Act.put, List.setIfInBounds_toArray, List.set_cons_zero, List.set_cons_succ]
              refine wpG_done (by kernel_rfl) ?_ _
              have HB3 : Hid (Below w.heap.size w wr.drew) := HB.out.drew
              have HRO3 := Lib.hid (HRO.out.gr (Gr.drew wr))
              generalize wr.drew = w3 at HB3 HRO3 ⊢
              obtain ⟨R, hR, hRl, hRo, hRv⟩ := HRO3.out.own
              have HRP := Lib.hid hR
              have HRV := Lib.hid hRv
              have hal : Gr w3 (w3.alloc (.cells #[.int .i64 T, .slice A L C] 42)) := (Gr.refl _).alloc _
              obtain ⟨M, hM⟩ : ∃ M, M = (strike ((plain qs).take i) (plain ts)).1.length := ⟨_, rfl⟩
              have hM1 : M ≤ 1000 := by
                have := strike_len ((plain qs).take i) (plain ts)
                have h5 := congrArg List.length HST.out
                rw [List.length_drop] at h5
                rw [List.length_take] at this
                omega
              rw [← hM] at hRo
              have HMM := Lib.hid hM
              have HRo4 := Lib.hid (ownsRow_below hRo hal)
              have HB4 := Lib.hid (HB3.out.trans (Below.mono hal HB3.out.size))
              have HRD := Lib.hid (rd_new w3 [.int .i64 T, .slice A L C] 42 1 2 rfl (by decide))
              have q0 := cellB' HB3.out hbl HA0.out
              have q1 := cellB' HB3.out hbl HA1.out
              clear hR hRl hRo hRv hal hM
              go_wp2_with (at_builtin; refine wpList_append_gr _ rfl (.tmp 104) (.tmp 109) 23 rfl w.heap.size 42 i0 _ 2 32 Try.underlying23 hi hz0 hz1 hz2 rfl (by decide) _ M _ rfl HRo4.out _ 1 _ rfl HRD.out (one_tag T rfl) ?p4 (by decide) HB4.out.size ?_)
              case p4 => omega
              intro vR w5 ho5 hg5
              have HRO5 : Hid (RO w w5 w.heap.size vR (strike ((plain qs).take (i + 1)) (plain ts)).1) := by
                show RO _ _ _ _ _
                rw [HKEEP.out.1]
                exact RO.more (t := ⟨T, .slice A L C, l⟩) HRP.out HRV.out HBS.out (by rw [← HMM.out]; exact ho5)
              have HB5 := Lib.hid (HB4.out.trans (grown_below HRo4.out HB4.out.size hg5))
              clear ho5 hg5 q0 q1
              go_wp2
              go_roundw
              case rel =>
                have HX := HKEEP.out.2
                first | exact ⟨i + 1, d, _, by omega, hd, by go_num, by go_num, rfl, HX, HRO5.out, HB5.out⟩ | ((repeat apply Exists.intro); exact ⟨⟨i + 1, d, _, by omega, hd, by go_num, by go_num, rfl, HX, HRO5.out, HB5.out⟩, rfl⟩)
              case measure => simp [intOf]; omega
          · have hte : (U == T) = false := by simpa using ht
            have HKEEP : Hid ((strike ((plain qs).take (i + 1)) (plain ts)).1 = (strike ((plain qs).take i) (plain ts)).1 ++ [(T, l)] ∧ (strike ((plain qs).take (i + 1)) (plain ts)).2 = (plain ts).drop d) := by
              show _ ∧ _
              rw [HSN.out, HDR.out]
              unfold strO strR
              simp only
              rw [if_neg (fun e => ht (congrArg Prod.fst e)), if_neg (fun e => ht (congrArg Prod.fst e))]
              exact ⟨rfl, rfl⟩
            clear ht
            go_upto_region 20 with fail
            refine wp_region_G 32 Gr (by kernel_rfl) ?_
            -- 0: slot 70
            refine wpG_take preGr (i := 0) (v := ?_) (by kernel_rfl) (some 70) (by kernel_rfl) rfl (by kernel_rfl) (by kernel_rfl) (by kernel_rfl) (fun _ _ _ h => h) (by rfl) (fun w' hw' => ?_) rfl ?_
            rotate_left
            · try have g0 := cellB' (HB.out.drew.trans (hw'.mono HB.out.size)) hbl HA0.out
              try have g1 := cellB' (HB.out.drew.trans (hw'.mono HB.out.size)) hbl HA1.out
              try have g2 := cellB' (HB.out.drew.trans (hw'.mono HB.out.size)) hbl2 HC0.out
              try have g3 := cellB' (HB.out.drew.trans (hw'.mono HB.out.size)) hbl2 HC1.out
              try have g4 := S1.out _ (HB.out.drew.trans (hw'.mono HB.out.size))
              try have g5 := S2.out _ (HB.out.drew.trans (hw'.mono HB.out.size))
              go_simp
              with_reducible rfl
            simp only [Act.put, List.setIfInBounds_toArray, List.set_cons_zero, List.set_cons_succ]
            -- 1: slot 71
            refine wpG_take preGr (i := 1) (v := ?_) (by kernel_rfl) (some 71) (by kernel_rfl) rfl (by kernel_rfl) (by kernel_rfl) (by kernel_rfl) (fun _ _ _ h => h) (by rfl) (fun w' hw' => ?_) rfl ?_
            rotate_left
            · try have g0 := cellB' (HB.out.drew.trans (hw'.mono HB.out.size)) hbl HA0.out
              try have g1 := cellB' (HB.out.drew.trans (hw'.mono HB.out.size)) hbl HA1.out
              try have g2 := cellB' (HB.out.drew.trans (hw'.mono HB.out.size)) hbl2 HC0.out
              try have g3 := cellB' (HB.out.drew.trans (hw'.mono HB.out.size)) hbl2 HC1.out
              try have g4 := S1.out _ (HB.out.drew.trans (hw'.mono HB.out.size))
              try have g5 := S2.out _ (HB.out.drew.trans (hw'.mono HB.out.size))
              go_simp
              with_reducible rfl
            simp only [Act.put, List.setIfInBounds_toArray, List.set_cons_zero, List.set_cons_succ]
            -- 2: slot 72
            refine wpG_take preGr (i := 2) (v := ?_) (by kernel_rfl) (some 72) (by kernel_rfl) rfl (by kernel_rfl) (by kernel_rfl) (by kernel_rfl) (fun _ _ _ h => h) (by rfl) (fun w' hw' => ?_) rfl ?_
            rotate_left
            · try have g0 := cellB' (HB.out.drew.trans (hw'.mono HB.out.size)) hbl HA0.out
              try have g1 := cellB' (HB.out.drew.trans (hw'.mono HB.out.size)) hbl HA1.out
              try have g2 := cellB' (HB.out.drew.trans (hw'.mono HB.out.size)) hbl2 HC0.out
              try have g3 := cellB' (HB.out.drew.trans (hw'.mono HB.out.size)) hbl2 HC1.out
              try have g4 := S1.out _ (HB.out.drew.trans (hw'.mono HB.out.size))
              try have g5 := S2.out _ (HB.out.drew.trans (hw'.mono HB.out.size))
              go_simp
              with_reducible rfl
            simp only [Act.put, List.setIfInBounds_toArray, List.set_cons_zero, List.set_cons_succ]
            -- 3: slot 73
            refine wpG_take preGr (i := 3) (v := ?_) (by kernel_rfl) (some 73) (by kernel_rfl) rfl (by kernel_rfl) (by kernel_rfl) (by kernel_rfl) (fun _ _ _ h => h) (by rfl) (fun w' hw' => ?_) rfl ?_
            rotate_left
            · try have g0 := cellB' (HB.out.drew.trans (hw'.mono HB.out.size)) hbl HA0.out
              try have g1 := cellB' (HB.out.drew.trans (hw'.mono HB.out.size)) hbl HA1.out
              try have g2 := cellB' (HB.out.drew.trans (hw'.mono HB.out.size)) hbl2 HC0.out
              try have g3 := cellB' (HB.out.drew.trans (hw'.mono HB.out.size)) hbl2 HC1.out
              try have g4 := S1.out _ (HB.out.drew.trans (hw'.mono HB.out.size))
              try have g5 := S2.out _ (HB.out.drew.trans (hw'.mono HB.out.size))
              go_simp
              with_reducible rfl
            simp only [Act.put, List.setIfInBounds_toArray, List.set_cons_zero, List.set_cons_succ]
            -- 4: slot 74
            refine wpG_take preGr (i := 4) (v := ?_) (by kernel_rfl) (some 74) (by kernel_rfl) rfl (by kernel_rfl) (by kernel_rfl) (by kernel_rfl) (fun _ _ _ h => h) (by rfl) (fun w' hw' => ?_) rfl ?_
            rotate_left
            · try have g0 := cellB' (HB.out.drew.trans (hw'.mono HB.out.size)) hbl HA0.out
              try have g1 := cellB' (HB.out.drew.trans (hw'.mono HB.out.size)) hbl HA1.out
              try have g2 := cellB' (HB.out.drew.trans (hw'.mono HB.out.size)) hbl2 HC0.out
              try have g3 := cellB' (HB.out.drew.trans (hw'.mono HB.out.size)) hbl2 HC1.out
              try have g4 := S1.out _ (HB.out.drew.trans (hw'.mono HB.out.size))
              try have g5 := S2.out _ (HB.out.drew.trans (hw'.mono HB.out.size))
              go_simp
              with_reducible rfl
            simp only [Act.put, List.setIfInBounds_toArray, List.set_cons_zero, List.set_cons_succ]
            -- 5: slot 75
            refine wpG_take preGr (i := 5) (v := ?_) (by kernel_rfl) (some 75) (by kernel_rfl) rfl (by kernel_rfl) (by kernel_rfl) (by kernel_rfl) (fun _ _ _ h => h) (by rfl) (fun w' hw' => ?_) rfl ?_
            rotate_left
            · try have g0 := cellB' (HB.out.drew.trans (hw'.mono HB.out.size)) hbl HA0.out
              try have g1 := cellB' (HB.out.drew.trans (hw'.mono HB.out.size)) hbl HA1.out
              try have g2 := cellB' (HB.out.drew.trans (hw'.mono HB.out.size)) hbl2 HC0.out
              try have g3 := cellB' (HB.out.drew.trans (hw'.mono HB.out.size)) hbl2 HC1.out
              try have g4 := S1.out _ (HB.out.drew.trans (hw'.mono HB.out.size))
              try have g5 := S2.out _ (HB.out.drew.trans (hw'.mono HB.out.size))
              go_simp
              with_reducible rfl
            simp only [Act.put, List.setIfInBounds_toArray, List.set_cons_zero, List.set_cons_succ]
            -- 6: slot 76
            refine wpG_take preGr (i := 6) (v := ?_) (by kernel_rfl) (some 76) (by kernel_rfl) rfl (by kernel_rfl) (by kernel_rfl) (by kernel_rfl) (fun _ _ _ h => h) (by rfl) (fun w' hw' => ?_) rfl ?_
            rotate_left
            · try have g0 := cellB' (HB.out.drew.trans (hw'.mono HB.out.size)) hbl HA0.out
              try have g1 := cellB' (HB.out.drew.trans (hw'.mono HB.out.size)) hbl HA1.out
              try have g2 := cellB' (HB.out.drew.trans (hw'.mono HB.out.size)) hbl2 HC0.out
              try have g3 := cellB' (HB.out.drew.trans (hw'.mono HB.out.size)) hbl2 HC1.out
              try have g4 := S1.out _ (HB.out.drew.trans (hw'.mono HB.out.size))
              try have g5 := S2.out _ (HB.out.drew.trans (hw'.mono HB.out.size))
              go_simp
              with_reducible rfl
            simp only [Act.put, List.setIfInBounds_toArray, List.set_cons_zero, List.set_cons_succ]
            -- 7: slot 77
            refine wpG_take preGr (i := 7) (v := ?_) (by kernel_rfl) (some 77) (by kernel_rfl) rfl (by kernel_rfl) (by kernel_rfl) (by kernel_rfl) (fun _ _ _ h => h) (by rfl) (fun w' hw' => ?_) rfl ?_
            rotate_left
            · try have g0 := cellB' (HB.out.drew.trans (hw'.mono HB.out.size)) hbl HA0.out
              try have g1 := cellB' (HB.out.drew.trans (hw'.mono HB.out.size)) hbl HA1.out
              try have g2 := cellB' (HB.out.drew.trans (hw'.mono HB.out.size)) hbl2 HC0.out
              try have g3 := cellB' (HB.out.drew.trans (hw'.mono HB.out.size)) hbl2 HC1.out
              try have g4 := S1.out _ (HB.out.drew.trans (hw'.mono HB.out.size))
              try have g5 := S2.out _ (HB.out.drew.trans (hw'.mono HB.out.size))
              go_simp
              with_reducible rfl
            simp only [Act.put, List.setIfInBounds_toArray, List.set_cons_zero, List.set_cons_succ]
            -- 8: slot 78
            refine wpG_take preGr (i := 8) (v := ?_) (by kernel_rfl) (some 78) (by kernel_rfl) rfl (by kernel_rfl) (by kernel_rfl) (by kernel_rfl) (fun _ _ _ h => h) (by rfl) (fun w' hw' => ?_) rfl ?_
            rotate_left
            · try have g0 := cellB' (HB.out.drew.trans (hw'.mono HB.out.size)) hbl HA0.out
              try have g1 := cellB' (HB.out.drew.trans (hw'.mono HB.out.size)) hbl HA1.out
              try have g2 := cellB' (HB.out.drew.trans (hw'.mono HB.out.size)) hbl2 HC0.out
              try have g3 := cellB' (HB.out.drew.trans (hw'.mono HB.out.size)) hbl2 HC1.out
              try have g4 := S1.out _ (HB.out.drew.trans (hw'.mono HB.out.size))
              try have g5 := S2.out _ (HB.out.drew.trans (hw'.mono HB.out.size))
              go_simp
              with_reducible rfl
            simp only [Act.put, List.setIfInBounds_toArray, List.set_cons_zero, List.set_cons_succ]
            -- 9: slot 79
            refine wpG_take preGr (i := 9) (v := ?_) (by kernel_rfl) (some 79) (by kernel_rfl) rfl (by kernel_rfl) (by kernel_rfl) (by kernel_rfl) (fun _ _ _ h => h) (by rfl) (fun w' hw' => ?_) rfl ?_
            rotate_left
            · try have g0 := cellB' (HB.out.drew.trans (hw'.mono HB.out.size)) hbl HA0.out
              try have g1 := cellB' (HB.out.drew.trans (hw'.mono HB.out.size)) hbl HA1.out
              try have g2 := cellB' (HB.out.drew.trans (hw'.mono HB.out.size)) hbl2 HC0.out
              try have g3 := cellB' (HB.out.drew.trans (hw'.mono HB.out.size)) hbl2 HC1.out
              try have g4 := S1.out _ (HB.out.drew.trans (hw'.mono HB.out.size))
              try have g5 := S2.out _ (HB.out.drew.trans (hw'.mono HB.out.size))
              go_simp
              with_reducible rfl
            simp only [Act.put, List.setIfInBounds_toArray, List.set_cons_zero, List.set_cons_succ]
            -- 10: slot 80
            refine wpG_take preGr (i := 10) (v := ?_) (by kernel_rfl) (some 80) (by kernel_rfl) rfl (by kernel_rfl) (by kernel_rfl) (by kernel_rfl) (fun _ _ _ h => h) (by rfl) (fun w' hw' => ?_) rfl ?_
            rotate_left
            · try have g0 := cellB' (HB.out.drew.trans (hw'.mono HB.out.size)) hbl HA0.out
              try have g1 := cellB' (HB.out.drew.trans (hw'.mono HB.out.size)) hbl HA1.out
              try have g2 := cellB' (HB.out.drew.trans (hw'.mono HB.out.size)) hbl2 HC0.out
              try have g3 := cellB' (HB.out.drew.trans (hw'.mono HB.out.size)) hbl2 HC1.out
              try have g4 := S1.out _ (HB.out.drew.trans (hw'.mono HB.out.size))
              try have g5 := S2.out _ (HB.out.drew.trans (hw'.mono HB.out.size))
              go_simp
              with_reducible rfl
            simp only [Act.put, List.setIfInBounds_toArray, List.set_cons_zero, List.set_cons_succ]
            -- 11: slot 81
            refine wpG_take preGr (i := 11) (v := ?_) (by kernel_rfl) (some 81) (by kernel_rfl) rfl (by kernel_rfl) (by kernel_rfl) (by kernel_rfl) (fun _ _ _ h => h) (by rfl) (fun w' hw' => ?_) rfl ?_
            rotate_left
            · try have g0 := cellB' (HB.out.drew.trans (hw'.mono HB.out.size)) hbl HA0.out
              try have g1 := cellB' (HB.out.drew.trans (hw'.mono HB.out.size)) hbl HA1.out
              try have g2 := cellB' (HB.out.drew.trans (hw'.mono HB.out.size)) hbl2 HC0.out
              try have g3 := cellB' (HB.out.drew.trans (hw'.mono HB.out.size)) hbl2 HC1.out
              try have g4 := S1.out _ (HB.out.drew.trans (hw'.mono HB.out.size))
              try have g5 := S2.out _ (HB.out.drew.trans (hw'.mono HB.out.size))
              go_simp
              with_reducible rfl
            simp only [Act.put, List.setIfInBounds_toArray, List.set_cons_zero, List.set_cons_succ]
            -- 12: slot 82
            refine wpG_take preGr (i := 12) (v := ?_) (by kernel_rfl) (some 82) (by kernel_rfl) rfl (by kernel_rfl) (by kernel_rfl) (by kernel_rfl) (fun _ _ _ h => h) (by rfl) (fun w' hw' => ?_) rfl ?_
            rotate_left
            · try have g0 := cellB' (HB.out.drew.trans (hw'.mono HB.out.size)) hbl HA0.out
              try have g1 := cellB' (HB.out.drew.trans (hw'.mono HB.out.size)) hbl HA1.out
              try have g2 := cellB' (HB.out.drew.trans (hw'.mono HB.out.size)) hbl2 HC0.out
              try have g3 := cellB' (HB.out.drew.trans (hw'.mono HB.out.size)) hbl2 HC1.out
              try have g4 := S1.out _ (HB.out.drew.trans (hw'.mono HB.out.size))
              try have g5 := S2.out _ (HB.out.drew.trans (hw'.mono HB.out.size))
              go_simp
              with_reducible rfl
            simp only [Act.put, List.setIfInBounds_toArray, List.set_cons_zero, List.set_cons_succ]
            -- 13: slot 83
            refine wpG_take preGr (i := 13) (v := ?_) (by kernel_rfl) (some 83) (by kernel_rfl) rfl (by kernel_rfl) (by kernel_rfl) (by kernel_rfl) (fun _ _ _ h => h) (by rfl) (fun w' hw' => ?_) rfl ?_
            rotate_left
            · try have g0 := cellB' (HB.out.drew.trans (hw'.mono HB.out.size)) hbl HA0.out
              try have g1 := cellB' (HB.out.drew.trans (hw'.mono HB.out.size)) hbl HA1.out
              try have g2 := cellB' (HB.out.drew.trans (hw'.mono HB.out.size)) hbl2 HC0.out
              try have g3 := cellB' (HB.out.drew.trans (hw'.mono HB.out.size)) hbl2 HC1.out
              try have g4 := S1.out _ (HB.out.drew.trans (hw'.mono HB.out.size))
              try have g5 := S2.out _ (HB.out.drew.trans (hw'.mono HB.out.size))
              go_simp
              with_reducible rfl
            simp only [Act.put, List.setIfInBounds_toArray, List.set_cons_zero, List.set_cons_succ]
            -- 14: slot 84
            refine wpG_take preGr (i := 14) (v := ?_) (by kernel_rfl) (some 84) (by kernel_rfl) rfl (by kernel_rfl) (by kernel_rfl) (by kernel_rfl) (fun _ _ _ h => h) (by rfl) (fun w' hw' => ?_) rfl ?_
            rotate_left
            · try have g0 := cellB' (HB.out.drew.trans (hw'.mono HB.out.size)) hbl HA0.out
              try have g1 := cellB' (HB.out.drew.trans (hw'.mono HB.out.size)) hbl HA1.out
              try have g2 := cellB' (HB.out.drew.trans (hw'.mono HB.out.size)) hbl2 HC0.out
              try have g3 := cellB' (HB.out.drew.trans (hw'.mono HB.out.size)) hbl2 HC1.out
              try have g4 := S1.out _ (HB.out.drew.trans (hw'.mono HB.out.size))
              try have g5 := S2.out _ (HB.out.drew.trans (hw'.mono HB.out.size))
              go_simp
              with_reducible rfl
            simp only [Act.put, List.setIfInBounds_toArray, List.set_cons_zero, List.set_cons_succ]
            -- 15: slot 85
            refine wpG_take preGr (i := 15) (v := ?_) (by kernel_rfl) (some 85) (by kernel_rfl) rfl (by kernel_rfl) (by kernel_rfl) (by kernel_rfl) (fun _ _ _ h => h) (by rfl) (fun w' hw' => ?_) rfl ?_
            rotate_left
            · try have g0 := cellB' (HB.out.drew.trans (hw'.mono HB.out.size)) hbl HA0.out
              try have g1 := cellB' (HB.out.drew.trans (hw'.mono HB.out.size)) hbl HA1.out
              try have g2 := cellB' (HB.out.drew.trans (hw'.mono HB.out.size)) hbl2 HC0.out
              try have g3 := cellB' (HB.out.drew.trans (hw'.mono HB.out.size)) hbl2 HC1.out
              try have g4 := S1.out _ (HB.out.drew.trans (hw'.mono HB.out.size))
              try have g5 := S2.out _ (HB.out.drew.trans (hw'.mono HB.out.size))
              go_simp
              with_reducible rfl
            simp only [Act.put, List.setIfInBounds_toArray, List.set_cons_zero, List.set_cons_succ]
            -- 16: slot 86
            refine wpG_take preGr (i := 16) (v := ?_) (by kernel_rfl) (some 86) (by kernel_rfl) rfl (by kernel_rfl) (by kernel_rfl) (by kernel_rfl) (fun _ _ _ h => h) (by rfl) (fun w' hw' => ?_) rfl ?_
            rotate_left
            · try have g0 := cellB' (HB.out.drew.trans (hw'.mono HB.out.size)) hbl HA0.out
              try have g1 := cellB' (HB.out.drew.trans (hw'.mono HB.out.size)) hbl HA1.out
              try have g2 := cellB' (HB.out.drew.trans (hw'.mono HB.out.size)) hbl2 HC0.out
              try have g3 := cellB' (HB.out.drew.trans (hw'.mono HB.out.size)) hbl2 HC1.out
              try have g4 := S1.out _ (HB.out.drew.trans (hw'.mono HB.out.size))
              try have g5 := S2.out _ (HB.out.drew.trans (hw'.mono HB.out.size))
              go_simp
              with_reducible rfl
            simp only [Act.put, List.setIfInBounds_toArray, List.set_cons_zero, List.set_cons_succ]
            -- 17: slot 87
            refine wpG_take preGr (i := 17) (v := ?_) (by kernel_rfl) (some 87) (by kernel_rfl) rfl (by kernel_rfl) (by kernel_rfl) (by kernel_rfl) (fun _ _ _ h => h) (by rfl) (fun w' hw' => ?_) rfl ?_
            rotate_left
            · try have g0 := cellB' (HB.out.drew.trans (hw'.mono HB.out.size)) hbl HA0.out
              try have g1 := cellB' (HB.out.drew.trans (hw'.mono HB.out.size)) hbl HA1.out
              try have g2 := cellB' (HB.out.drew.trans (hw'.mono HB.out.size)) hbl2 HC0.out
              try have g3 := cellB' (HB.out.drew.trans (hw'.mono HB.out.size)) hbl2 HC1.out
              try have g4 := S1.out _ (HB.out.drew.trans (hw'.mono HB.out.size))
              try have g5 := S2.out _ (HB.out.drew.trans (hw'.mono HB.out.size))
              go_simp
              with_reducible rfl
            simp only [Act.put, List.setIfInBounds_toArray, List.set_cons_zero, List.set_cons_succ]
            refine wpG_pass preGr (i := 18) (by kernel_rfl) (some 88) (by kernel_rfl) rfl (by kernel_rfl) (by kernel_rfl) (by kernel_rfl) (fun _ _ _ h => h) (by rfl) rfl ?_
            simp only [Act.put, List.setIfInBounds_toArray, List.set_cons_zero, List.set_cons_succ]
            refine wpG_pass preGr (i := 19) (by kernel_rfl) (some 89) (by kernel_rfl) rfl (by kernel_rfl) (by kernel_rfl) (by kernel_rfl) (fun _ _ _ h => h) (by rfl) rfl ?_
            simp only [Act.put, List.setIfInBounds_toArray, List.set_cons_zero, List.set_cons_succ]
            refine wpG_pass preGr (i := 20) (by kernel_rfl) (some 90) (by kernel_rfl) rfl (by kernel_rfl) (by kernel_rfl) (by kernel_rfl) (fun _ _ _ h => h) (by rfl) rfl ?_
            simp only [Act.put, List.setIfInBounds_toArray, List.set_cons_zero, List.set_cons_succ]
            refine wpG_pass preGr (i := 21) (by kernel_rfl) (some 91) (by kernel_rfl) rfl (by kernel_rfl) (by kernel_rfl) (by kernel_rfl) (fun _ _ _ h => h) (by rfl) rfl ?_
            simp only [Act.put, List.setIfInBounds_toArray, List.set_cons_zero, List.set_cons_succ]
            refine wpG_pass preGr (i := 22) (by kernel_rfl) (some 92) (by kernel_rfl) rfl (by kernel_rfl) (by kernel_rfl) (by kernel_rfl) (fun _ _ _ h => h) (by rfl) rfl ?_
            simp only [Act.put, List.setIfInBounds_toArray, List.set_cons_zero, List.set_cons_succ]
            refine wpG_pass preGr (i := 23) (by kernel_rfl) (some 93) (by kernel_rfl) rfl (by kernel_rfl) (by kernel_rfl) (by kernel_rfl) (fun _ _ _ h => h) (by rfl) rfl ?_
            simp only [Act.put, List.setIfInBounds_toArray, List.set_cons_zero, List.set_cons_succ]
            refine wpG_pass preGr (i := 24) (by kernel_rfl) (some 94) (by kernel_rfl) rfl (by kernel_rfl) (by kernel_rfl) (by kernel_rfl) (fun _ _ _ h => h) (by rfl) rfl ?_
            simp only [Act.put, List.setIfInBounds_toArray, List.set_cons_zero, List.set_cons_succ]
            refine wpG_pass preGr (i := 25) (by kernel_rfl) (some 95) (by kernel_rfl) rfl (by kernel_rfl) (by kernel_rfl) (by kernel_rfl) (fun _ _ _ h => h) (by rfl) rfl ?_
            simp only [Act.put, List.setIfInBounds_toArray, List.set_cons_zero, List.set_cons_succ]
            refine wpG_pass preGr (i := 26) (by kernel_rfl) (some 96) (by kernel_rfl) rfl (by kernel_rfl) (by kernel_rfl) (by kernel_rfl) (fun _ _ _ h => h) (by rfl) rfl ?_
            simp only [Act.put, List.setIfInBounds_toArray, List.set_cons_zero, List.set_cons_succ]
            refine wpG_pass preGr (i := 27) (by kernel_rfl) (some 97) (by kernel_rfl) rfl (by kernel_rfl) (by kernel_rfl) (by kernel_rfl) (fun _ _ _ h => h) (by rfl) rfl ?_
            simp only [Act.put, List.setIfInBounds_toArray, List.set_cons_zero, List.set_cons_succ]
            refine wpG_pass preGr (i := 28) (by kernel_rfl) (some 98) (by kernel_rfl) rfl (by kernel_rfl) (by kernel_rfl) (by kernel_rfl) (fun _ _ _ h => h) (by rfl) rfl ?_
            simp only [Act.put, List.setIfInBounds_toArray, List.set_cons_zero, List.set_cons_succ]
            refine wpG_pass preGr (i := 29) (by kernel_rfl) (some 99) (by kernel_rfl) rfl (by kernel_rfl) (by kernel_rfl) (by kernel_rfl) (fun _ _ _ h => h) (by rfl) rfl ?_
            simp only [Act.put, List.setIfInBounds_toArray, List.set_cons_zero, List.set_cons_succ]
            refine wpG_pass preGr (i := 30) (by kernel_rfl) (some 100) (by kernel_rfl) rfl (by kernel_rfl) (by kernel_rfl) (by kernel_rfl) (fun _ _ _ h => h) (by rfl) rfl ?_
            simp only [Act.put, List.setIfInBounds_toArray, List.set_cons_zero, List.set_cons_succ]
            -- 31: slot 101
            refine wpG_take preGr (i := 31) (v := ?_) (by kernel_rfl) (some 101) (by kernel_rfl) rfl (by kernel_rfl) (by kernel_rfl) (by kernel_rfl) (fun _ _ _ h => h) (by rfl) (fun w' hw' => ?_) rfl ?_
            rotate_left
            · try have g0 := cellB' (HB.out.drew.trans (hw'.mono HB.out.size)) hbl HA0.out
              try have g1 := cellB' (HB.out.drew.trans (hw'.mono HB.out.size)) hbl HA1.out
              try have g2 := cellB' (HB.out.drew.trans (hw'.mono HB.out.size)) hbl2 HC0.out
              try have g3 := cellB' (HB.out.drew.trans (hw'.mono HB.out.size)) hbl2 HC1.out
              try have g4 := S1.out _ (HB.out.drew.trans (hw'.mono HB.out.size))
              try have g5 := S2.out _ (HB.out.drew.trans (hw'.mono HB.out.size))
              go_simp
              with_reducible rfl
            simp only [Act.put, List.setIfInBounds_toArray, List.set_cons_zero, List.set_cons_succ]
            refine wpG_done (by kernel_rfl) ?_ _
            have HB3 : Hid (Below w.heap.size w wr.drew) := HB.out.drew
            have HRO3 := Lib.hid (HRO.out.gr (Gr.drew wr))
            generalize wr.drew = w3 at HB3 HRO3 ⊢
            obtain ⟨R, hR, hRl, hRo, hRv⟩ := HRO3.out.own
            have HRP := Lib.hid hR
            have HRV := Lib.hid hRv
            have hal : Gr w3 (w3.alloc (.cells #[.int .i64 T, .slice A L C] 42)) := (Gr.refl _).alloc _
            obtain ⟨M, hM⟩ : ∃ M, M = (strike ((plain qs).take i) (plain ts)).1.length := ⟨_, rfl⟩
            have hM1 : M ≤ 1000 := by
              have := strike_len ((plain qs).take i) (plain ts)
              have h5 := congrArg List.length HST.out
              rw [List.length_drop] at h5
              rw [List.length_take] at this
              omega
            rw [← hM] at hRo
            have HMM := Lib.hid hM
            have HRo4 := Lib.hid (ownsRow_below hRo hal)
            have HB4 := Lib.hid (HB3.out.trans (Below.mono hal HB3.out.size))
            have HRD := Lib.hid (rd_new w3 [.int .i64 T, .slice A L C] 42 1 2 rfl (by decide))
            have q0 := cellB' HB3.out hbl HA0.out
            have q1 := cellB' HB3.out hbl HA1.out
            clear hR hRl hRo hRv hal hM
            go_wp2_with (at_builtin; refine wpList_append_gr _ rfl (.tmp 104) (.tmp 109) 23 rfl w.heap.size 42 i0 _ 2 32 Try.underlying23 hi hz0 hz1 hz2 rfl (by decide) _ M _ rfl HRo4.out _ 1 _ rfl HRD.out (one_tag T rfl) ?p4 (by decide) HB4.out.size ?_)
            case p4 => omega
            intro vR w5 ho5 hg5
            have HRO5 : Hid (RO w w5 w.heap.size vR (strike ((plain qs).take (i + 1)) (plain ts)).1) := by
              show RO _ _ _ _ _
              rw [HKEEP.out.1]
              exact RO.more (t := ⟨T, .slice A L C, l⟩) HRP.out HRV.out HBS.out (by rw [← HMM.out]; exact ho5)
            have HB5 := Lib.hid (HB4.out.trans (grown_below HRo4.out HB4.out.size hg5))
            clear ho5 hg5 q0 q1
            go_wp2
            go_roundw
            case rel =>
              have HX := HKEEP.out.2
              first | exact ⟨i + 1, d, _, by omega, hd, by go_num, by go_num, rfl, HX, HRO5.out, HB5.out⟩ | ((repeat apply Exists.intro); exact ⟨⟨i + 1, d, _, by omega, hd, by go_num, by go_num, rfl, HX, HRO5.out, HB5.out⟩, rfl⟩)
            case measure => simp [intOf]; omega
        · obtain rfl : d = ln := by omega
          have HKEEP : Hid ((strike ((plain qs).take (i + 1)) (plain ts)).1 = (strike ((plain qs).take i) (plain ts)).1 ++ [(T, l)] ∧ (strike ((plain qs).take (i + 1)) (plain ts)).2 = (plain ts).drop d) := by
            show _ ∧ _
            have e : (plain ts).drop d = [] := List.drop_of_length_le (by rw [plain_length]; omega)
            rw [HSN.out, e]
            exact ⟨rfl, rfl⟩
          have hdd : decide ((d : Int) < (d : Int)) = false := by simp
          go_upto_region 20 with fail
          refine wp_region_G 32 Gr (by kernel_rfl) ?_
          -- 0: slot 70
          refine wpG_take preGr (i := 0) (v := ?_) (by kernel_rfl) (some 70) (by kernel_rfl) rfl (by kernel_rfl) (by kernel_rfl) (by kernel_rfl) (fun _ _ _ h => h) (by rfl) (fun w' hw' => ?_) rfl ?_
          rotate_left
          · go_simp
            with_reducible rfl
          simp only [Act.put, List.setIfInBounds_toArray, List.set_cons_zero, List.set_cons_succ]
          -- 1: slot 71
          refine wpG_take preGr (i := 1) (v := ?_) (by kernel_rfl) (some 71) (by kernel_rfl) rfl (by kernel_rfl) (by kernel_rfl) (by kernel_rfl) (fun _ _ _ h => h) (by rfl) (fun w' hw' => ?_) rfl ?_
          rotate_left
          · go_simp
            with_reducible rfl
          simp only [Act.put, List.setIfInBounds_toArray, List.set_cons_zero, List.set_cons_succ]
          -- 2: slot 72
          refine wpG_take preGr (i := 2) (v := ?_) (by kernel_rfl) (some 72) (by kernel_rfl) rfl (by kernel_rfl) (by kernel_rfl) (by kernel_rfl) (fun _ _ _ h => h) (by rfl) (fun w' hw' => ?_) rfl ?_
          rotate_left
          · go_simp
            with_reducible rfl
          simp only [Act.put, List.setIfInBounds_toArray, List.set_cons_zero, List.set_cons_succ]
          -- 3: slot 73
          refine wpG_take preGr (i := 3) (v := ?_) (by kernel_rfl) (some 73) (by kernel_rfl) rfl (by kernel_rfl) (by kernel_rfl) (by kernel_rfl) (fun _ _ _ h => h) (by rfl) (fun w' hw' => ?_) rfl ?_
          rotate_left
          · go_simp
            with_reducible rfl
          simp only [Act.put, List.setIfInBounds_toArray, List.set_cons_zero, List.set_cons_succ]
          -- 4: slot 74
          refine wpG_take preGr (i := 4) (v := ?_) (by kernel_rfl) (some 74) (by kernel_rfl) rfl (by kernel_rfl) (by kernel_rfl) (by kernel_rfl) (fun _ _ _ h => h) (by rfl) (fun w' hw' => ?_) rfl ?_
          rotate_left
          · go_simp
            with_reducible rfl
          simp only [Act.put, List.setIfInBounds_toArray, List.set_cons_zero, List.set_cons_succ]
          refine wpG_pass preGr (i := 5) (by kernel_rfl) (some 75) (by kernel_rfl) rfl (by kernel_rfl) (by kernel_rfl) (by kernel_rfl) (fun _ _ _ h => h) (by rfl) rfl ?_
          simp only [Act.put, List.setIfInBounds_toArray, List.set_cons_zero, List.set_cons_succ]
          refine wpG_pass preGr (i := 6) (by kernel_rfl) (some 76) (by kernel_rfl) rfl (by kernel_rfl) (by kernel_rfl) (by kernel_rfl) (fun _ _ _ h => h) (by rfl) rfl ?_
          simp only [Act.put, List.setIfInBounds_toArray, List.set_cons_zero, List.set_cons_succ]
          refine wpG_pass preGr (i := 7) (by kernel_rfl) (some 77) (by kernel_rfl) rfl (by kernel_rfl) (by kernel_rfl) (by kernel_rfl) (fun _ _ _ h => h) (by rfl) rfl ?_
          simp only [Act.put, List.setIfInBounds_toArray, List.set_cons_zero, List.set_cons_succ]
          refine wpG_pass preGr (i := 8) (by kernel_rfl) (some 78) (by kernel_rfl) rfl (by kernel_rfl) (by kernel_rfl) (by kernel_rfl) (fun _ _ _ h => h) (by rfl) rfl ?_
          simp only [Act.put, List.setIfInBounds_toArray, List.set_cons_zero, List.set_cons_succ]
          refine wpG_pass preGr (i := 9) (by kernel_rfl) (some 79) (by kernel_rfl) rfl (by kernel_rfl) (by kernel_rfl) (by kernel_rfl) (fun _ _ _ h => h) (by rfl) rfl ?_
          simp only [Act.put, List.setIfInBounds_toArray, List.set_cons_zero, List.set_cons_succ]
          refine wpG_pass preGr (i := 10) (by kernel_rfl) (some 80) (by kernel_rfl) rfl (by kernel_rfl) (by kernel_rfl) (by kernel_rfl) (fun _ _ _ h => h) (by rfl) rfl ?_
          simp only [Act.put, List.setIfInBounds_toArray, List.set_cons_zero, List.set_cons_succ]
          refine wpG_pass preGr (i := 11) (by kernel_rfl) (some 81) (by kernel_rfl) rfl (by kernel_rfl) (by kernel_rfl) (by kernel_rfl) (fun _ _ _ h => h) (by rfl) rfl ?_
          simp only [Act.put, List.setIfInBounds_toArray, List.set_cons_zero, List.set_cons_succ]
          refine wpG_pass preGr (i := 12) (by kernel_rfl) (some 82) (by kernel_rfl) rfl (by kernel_rfl) (by kernel_rfl) (by kernel_rfl) (fun _ _ _ h => h) (by rfl) rfl ?_
          simp only [Act.put, List.setIfInBounds_toArray, List.set_cons_zero, List.set_cons_succ]
          refine wpG_pass preGr (i := 13) (by kernel_rfl) (some 83) (by kernel_rfl) rfl (by kernel_rfl) (by kernel_rfl) (by kernel_rfl) (fun _ _ _ h => h) (by rfl) rfl ?_
          simp only [Act.put, List.setIfInBounds_toArray, List.set_cons_zero, List.set_cons_succ]
          refine wpG_pass preGr (i := 14) (by kernel_rfl) (some 84) (by kernel_rfl) rfl (by kernel_rfl) (by kernel_rfl) (by kernel_rfl) (fun _ _ _ h => h) (by rfl) rfl ?_
          simp only [Act.put, List.setIfInBounds_toArray, List.set_cons_zero, List.set_cons_succ]
          refine wpG_pass preGr (i := 15) (by kernel_rfl) (some 85) (by kernel_rfl) rfl (by kernel_rfl) (by kernel_rfl) (by kernel_rfl) (fun _ _ _ h => h) (by rfl) rfl ?_
          simp only [Act.put, List.setIfInBounds_toArray, List.set_cons_zero, List.set_cons_succ]
          -- 16: slot 86
          refine wpG_take preGr (i := 16) (v := ?_) (by kernel_rfl) (some 86) (by kernel_rfl) rfl (by kernel_rfl) (by kernel_rfl) (by kernel_rfl) (fun _ _ _ h => h) (by rfl) (fun w' hw' => ?_) rfl ?_
          rotate_left
          · go_simp
            with_reducible rfl
          simp only [Act.put, List.setIfInBounds_toArray, List.set_cons_zero, List.set_cons_succ]
          -- 17: slot 87
          refine wpG_take preGr (i := 17) (v := ?_) (by kernel_rfl) (some 87) (by kernel_rfl) rfl (by kernel_rfl) (by kernel_rfl) (by kernel_rfl) (fun _ _ _ h => h) (by rfl) (fun w' hw' => ?_) rfl ?_
          rotate_left
          · go_simp
            with_reducible rfl
          simp only [Act.put, List.setIfInBounds_toArray, List.set_cons_zero, List.set_cons_succ]
          refine wpG_pass preGr (i := 18) (by kernel_rfl) (some 88) (by kernel_rfl) rfl (by kernel_rfl) (by kernel_rfl) (by kernel_rfl) (fun _ _ _ h => h) (by rfl) rfl ?_
          simp only [Act.put, List.setIfInBounds_toArray, List.set_cons_zero, List.set_cons_succ]
          refine wpG_pass preGr (i := 19) (by kernel_rfl) (some 89) (by kernel_rfl) rfl (by kernel_rfl) (by kernel_rfl) (by kernel_rfl) (fun _ _ _ h => h) (by rfl) rfl ?_
          simp only [Act.put, List.setIfInBounds_toArray, List.set_cons_zero, List.set_cons_succ]
          refine wpG_pass preGr (i := 20) (by kernel_rfl) (some 90) (by kernel_rfl) rfl (by kernel_rfl) (by kernel_rfl) (by kernel_rfl) (fun _ _ _ h => h) (by rfl) rfl ?_
          simp only [Act.put, List.setIfInBounds_toArray, List.set_cons_zero, List.set_cons_succ]
          refine wpG_pass preGr (i := 21) (by kernel_rfl) (some 91) (by kernel_rfl) rfl (by kernel_rfl) (by kernel_rfl) (by kernel_rfl) (fun _ _ _ h => h) (by rfl) rfl ?_
          simp only [Act.put, List.setIfInBounds_toArray, List.set_cons_zero, List.set_cons_succ]
          refine wpG_pass preGr (i := 22) (by kernel_rfl) (some 92) (by kernel_rfl) rfl (by kernel_rfl) (by kernel_rfl) (by kernel_rfl) (fun _ _ _ h => h) (by rfl) rfl ?_
          simp only [Act.put, List.setIfInBounds_toArray, List.set_cons_zero, List.set_cons_succ]
          refine wpG_pass preGr (i := 23) (by kernel_rfl) (some 93) (by kernel_rfl) rfl (by kernel_rfl) (by kernel_rfl) (by kernel_rfl) (fun _ _ _ h => h) (by rfl) rfl ?_
          simp only [Act.put, List.setIfInBounds_toArray, List.set_cons_zero, List.set_cons_succ]
          refine wpG_pass preGr (i := 24) (by kernel_rfl) (some 94) (by kernel_rfl) rfl (by kernel_rfl) (by kernel_rfl) (by kernel_rfl) (fun _ _ _ h => h) (by rfl) rfl ?_
          simp only [Act.put, List.setIfInBounds_toArray, List.set_cons_zero, List.set_cons_succ]
          refine wpG_pass preGr (i := 25) (by kernel_rfl) (some 95) (by kernel_rfl) rfl (by kernel_rfl) (by kernel_rfl) (by kernel_rfl) (fun _ _ _ h => h) (by rfl) rfl ?_
          simp only [Act.put, List.setIfInBounds_toArray, List.set_cons_zero, List.set_cons_succ]
          refine wpG_pass preGr (i := 26) (by kernel_rfl) (some 96) (by kernel_rfl) rfl (by kernel_rfl) (by kernel_rfl) (by kernel_rfl) (fun _ _ _ h => h) (by rfl) rfl ?_
          simp only [Act.put, List.setIfInBounds_toArray, List.set_cons_zero, List.set_cons_succ]
          refine wpG_pass preGr (i := 27) (by kernel_rfl) (some 97) (by kernel_rfl) rfl (by kernel_rfl) (by kernel_rfl) (by kernel_rfl) (fun _ _ _ h => h) (by rfl) rfl ?_
          simp only [Act.put, List.setIfInBounds_toArray, List.set_cons_zero, List.set_cons_succ]
          refine wpG_pass preGr (i := 28) (by kernel_rfl) (some 98) (by kernel_rfl) rfl (by kernel_rfl) (by kernel_rfl) (by kernel_rfl) (fun _ _ _ h => h) (by rfl) rfl ?_
          simp only [Act.put, List.setIfInBounds_toArray, List.set_cons_zero, List.set_cons_succ]
          refine wpG_pass preGr (i := 29) (by kernel_rfl) (some 99) (by kernel_rfl) rfl (by kernel_rfl) (by kernel_rfl) (by kernel_rfl) (fun _ _ _ h => h) (by rfl) rfl ?_
          simp only [Act.put, List.setIfInBounds_toArray, List.set_cons_zero, List.set_cons_succ]
          refine wpG_pass preGr (i := 30) (by kernel_rfl) (some 100) (by kernel_rfl) rfl (by kernel_rfl) (by kernel_rfl) (by kernel_rfl) (fun _ _ _ h => h) (by rfl) rfl ?_
          simp only [Act.put, List.setIfInBounds_toArray, List.set_cons_zero, List.set_cons_succ]
          -- 31: slot 101
          refine wpG_take preGr (i := 31) (v := ?_) (by kernel_rfl) (some 101) (by kernel_rfl) rfl (by kernel_rfl) (by kernel_rfl) (by kernel_rfl) (fun _ _ _ h => h) (by rfl) (fun w' hw' => ?_) rfl ?_
          rotate_left
          · go_simp
            with_reducible rfl
          simp only [Act.put, List.setIfInBounds_toArray, List.set_cons_zero, List.set_cons_succ]
          refine wpG_done (by kernel_rfl) ?_ _
          have HB3 : Hid (Below w.heap.size w wr.drew) := HB.out.drew
          have HRO3 := Lib.hid (HRO.out.gr (Gr.drew wr))
          generalize wr.drew = w3 at HB3 HRO3 ⊢
          obtain ⟨R, hR, hRl, hRo, hRv⟩ := HRO3.out.own
          have HRP := Lib.hid hR
          have HRV := Lib.hid hRv
          have hal : Gr w3 (w3.alloc (.cells #[.int .i64 T, .slice A L C] 42)) := (Gr.refl _).alloc _
          obtain ⟨M, hM⟩ : ∃ M, M = (strike ((plain qs).take i) (plain ts)).1.length := ⟨_, rfl⟩
          have hM1 : M ≤ 1000 := by
            have := strike_len ((plain qs).take i) (plain ts)
            have h5 := congrArg List.length HST.out
            rw [List.length_drop] at h5
            rw [List.length_take] at this
            omega
          rw [← hM] at hRo
          have HMM := Lib.hid hM
          have HRo4 := Lib.hid (ownsRow_below hRo hal)
          have HB4 := Lib.hid (HB3.out.trans (Below.mono hal HB3.out.size))
          have HRD := Lib.hid (rd_new w3 [.int .i64 T, .slice A L C] 42 1 2 rfl (by decide))
          have q0 := cellB' HB3.out hbl HA0.out
          have q1 := cellB' HB3.out hbl HA1.out
          clear hR hRl hRo hRv hal hM
          go_wp2_with (at_builtin; refine wpList_append_gr _ rfl (.tmp 104) (.tmp 109) 23 rfl w.heap.size 42 i0 _ 2 32 Try.underlying23 hi hz0 hz1 hz2 rfl (by decide) _ M _ rfl HRo4.out _ 1 _ rfl HRD.out (one_tag T rfl) ?p4 (by decide) HB4.out.size ?_)
          case p4 => omega
          intro vR w5 ho5 hg5
          have HRO5 : Hid (RO w w5 w.heap.size vR (strike ((plain qs).take (i + 1)) (plain ts)).1) := by
            show RO _ _ _ _ _
            rw [HKEEP.out.1]
            exact RO.more (t := ⟨T, .slice A L C, l⟩) HRP.out HRV.out HBS.out (by rw [← HMM.out]; exact ho5)
          have HB5 := Lib.hid (HB4.out.trans (grown_below HRo4.out HB4.out.size hg5))
          clear ho5 hg5 q0 q1
          go_wp2
          go_roundw
          case rel =>
            have HX := HKEEP.out.2
            first | exact ⟨i + 1, d, _, by omega, hd, by go_num, by go_num, rfl, HX, HRO5.out, HB5.out⟩ | ((repeat apply Exists.intro); exact ⟨⟨i + 1, d, _, by omega, hd, by go_num, by go_num, rfl, HX, HRO5.out, HB5.out⟩, rfl⟩)
          case measure => simp [intOf]; omega
      · obtain rfl : i = n := by omega
        have e : (plain qs).take i = plain qs := List.take_of_length_le (by rw [plain_length]; omega)
        rw [e] at HST HRO
        by_cases hdl : d < ln
        · have HANS : Hid (lrn (plain qs) 4 (plain ts) = (plain qs, false)) := HLR.out.trans (if_neg fun h => by
            have h5 := congrArg List.length HST.out
            rw [h, List.length_drop, plain_length] at h5
            simp at h5
            omega)
          have hdl2 : (d : Int) < (ln : Int) := by omega
          clear e
          go_wp2
          go_ret2
          exact RLRes.of _ false ao i c qs HANS.out rfl (HRA.out.below HB.out) HB.out
        · obtain rfl : d = ln := by omega
          have HANS : Hid (lrn (plain qs) 4 (plain ts) = ((strike (plain qs) (plain ts)).1, true)) := HLR.out.trans (if_pos (by rw [HST.out]; exact List.drop_of_length_le (by rw [plain_length]; omega)))
          obtain ⟨a, m, c', us, ev, hp, htr⟩ := HRO.out.tr HB.out
          subst ev
          have HP := Lib.hid hp
          have HTR := Lib.hid htr
          clear hp htr e
          go_wp2
          go_ret2
          exact RLRes.of _ true a m c' us HANS.out HP.out HTR.out HB.out
  have e4 : (code == 4) = false := by simpa using h4
  have e4' : (code != 4) = true := by simpa using h4
  have HN : Hid (lrn (plain qs) code (plain ts) = (plain qs, false)) := lrn_none (.inr ⟨h3, h4⟩)
  clear h3 h4
  go_enter Try.func18, Try.ntmps18
  go_wp2
  go_ret2
  exact RLRes.of _ false ao n c qs HN.out rfl HRA.out (Below.refl _ _)
end Go.Proofs.Ytbldcjngccmhpaa.Ng
