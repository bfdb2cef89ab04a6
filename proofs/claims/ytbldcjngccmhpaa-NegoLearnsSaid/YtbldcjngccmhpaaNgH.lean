/-
  nego's lacking (slices.ContainsFunc over its closure).
-/
import Derived.Test.YtbldcjngccmhpaaNgF
namespace Go.Proofs.Ytbldcjngccmhpaa.Ng
open Go.RowKit O
set_option linter.unusedVariables false
set_option linter.unusedSimpArgs false
theorem lacking1_any (r : Ru) (gx : Nat) (T : Int) (A : Option Addr) (L C : Nat) (w : World) (hg : w.heap[gx]? = some (.cells #[.int .i64 r.typ, .int .i64 r.size, .int .i64 r.kind, .int .i64 r.low, .int .i64 r.high, .int .i64 r.good, .bool r.must] 39)) :
    Calls Try.prog 44 #[.agg #[.int .i64 T, .slice A L C], .pointer (some ⟨gx, 0, none⟩)] w fun e w' => e = .returned (.bool (decide (T = r.typ))) ∧ Below w.heap.size w w' := by
  have hal : Gr w (w.alloc (.cells #[.int .i64 T, .slice A L C] 42)) := (Gr.refl w).alloc _
  have k0 := (cells7 (heap_gr hal hg)).1
  go_enter Try.func44, Try.ntmps44
  go_wp2
  go_ret
  exact ⟨by simp [Bool.beq_eq_decide_eq], (Below.refl _ _).alloc (Nat.le_refl _) _⟩
theorem hasT_at {ts : List Tg} {t : Int} (k : Nat) (h : k < ts.length) (e : ts[k].typ = t) : hasT (plain ts) t = true := by
  rw [hasT_iff]
  exact ⟨ts[k].plain, List.mem_map.2 ⟨_, List.getElem_mem h, rfl⟩, e⟩
theorem hasT_none {ts : List Tg} {t : Int} (h : ∀ j (hj : j < ts.length), ts[j].typ ≠ t) : hasT (plain ts) t = false := by
  rw [Bool.eq_false_iff]
  intro e
  obtain ⟨o, ho, e⟩ := hasT_iff.1 e
  obtain ⟨x, hx, rfl⟩ := List.mem_map.1 ho
  obtain ⟨i, hi, rfl⟩ := List.mem_iff_getElem.1 hx
  exact h i hi e

set_option maxRecDepth 20000 in
set_option maxHeartbeats 2000000 in
theorem indexFunc_any (ao : Option Addr) (n c : Nat) (ts : List Tg) (r : Ru) (gx : Nat) (w : World) (hr : TR w (.slice ao n c) n ts) (hg : w.heap[gx]? = some (.cells #[.int .i64 r.typ, .int .i64 r.size, .int .i64 r.kind, .int .i64 r.low, .int .i64 r.high, .int .i64 r.good, .bool r.must] 39)) (hn : n ≤ 1000) :
    Calls Try.prog 59 #[.slice ao n c, .func (.func 44) #[] #[.pointer (some ⟨gx, 0, none⟩)]] w fun e w' => (∃ i : Int, e = .returned (.int .i64 i) ∧ decide (i ≥ 0) = hasT (plain ts) r.typ) ∧ Below w.heap.size w w' := by
  have hl := hr.len
  have HR := Lib.hid hr
  have HG := Lib.hid hg
  clear hr hg
  go_enter Try.func59, Try.ntmps59
  go_wp2
  go_loopw [5, 8] (fun sv iv wr => ∃ (k : Nat) (lv : Value), k ≤ n ∧ iv = .int .i64 k ∧ lv = sv ∧ (∀ j (hj : j < k) (h2 : j < ts.length), ts[j].typ ≠ r.typ) ∧ Below w.heap.size w wr) (fun _ iv _ => n - (intOf iv).toNat)
  case atStart => exact ⟨0, _, Nat.zero_le _, rfl, rfl, fun j hj => by omega, Below.refl _ _⟩
  case round =>
    obtain ⟨k, lv, hk, rfl, rfl, hne, hb⟩ := hrel
    have HNE := Lib.hid hne
    have HB := Lib.hid hb
    clear hne hb
    by_cases hlt : k < n
    · obtain ⟨b, o, rfl, hbl, hc⟩ := (HR.out.below HB.out).cells (by omega)
      obtain ⟨hc0, hc1⟩ := hc k (by omega)
      have HV := Lib.hid (HR.out.val k (by omega))
      obtain ⟨A, L, C, hv, hL, hLC, hCm⟩ := HV.out.sl
      rw [hv] at hc1
      obtain ⟨T, hT⟩ : ∃ T, T = ts[k].typ := ⟨_, rfl⟩
      rw [← hT] at hc0
      have HTT := Lib.hid hT
      have CA := Lib.hid (lacking1_any r gx T A L C wr (heap_below HG.out HB.out))
      clear hv hL hT hc
      by_cases ht : T = r.typ
      · rw [decide_eq_true ht] at CA
        have HF : Hid (hasT (plain ts) r.typ = true) := hasT_at k (by omega) (by rw [← HTT.out]; exact ht)
        clear ht
        go_wp2_with fail
        refine CA.out.mono ?_
        rintro e w2 ⟨rfl, hb2⟩
        have HB2 := Lib.hid (HB.out.trans (hb2.mono HB.out.size))
        clear hb2
        go_wp2
        go_ret
        exact ⟨⟨k, rfl, by rw [HF.out]; simp⟩, HB2.out⟩
      · rw [decide_eq_false ht] at CA
        have HT := Lib.hid ht
        clear ht
        go_wp2_with fail
        refine CA.out.mono ?_
        rintro e w2 ⟨rfl, hb2⟩
        have HB2 := Lib.hid (HB.out.trans (hb2.mono HB.out.size))
        clear hb2 hc0 hc1
        go_wp2
        go_roundw
        case rel =>
          have HN1 : ∀ j (hj : j < k + 1) (h2 : j < ts.length), ts[j].typ ≠ r.typ := fun j hj h2 => by
            by_cases e : j = k
            · subst e; rw [← HTT.out]; exact HT.out
            · exact HNE.out j (by omega) h2
          first | exact ⟨k + 1, _, by omega, by go_num, rfl, HN1, HB2.out⟩ | ((repeat apply Exists.intro); exact ⟨⟨k + 1, _, by omega, by go_num, rfl, HN1, HB2.out⟩, rfl⟩)
        case measure => simp [intOf]; omega
    · obtain rfl : k = n := by omega
      have HF := Lib.hid (hasT_none (t := r.typ) fun j hj => HNE.out j (by omega) hj)
      go_wp2
      go_ret
      exact ⟨⟨-1, rfl, by rw [HF.out]; rfl⟩, HB.out⟩
theorem contains_any (ao : Option Addr) (n c : Nat) (ts : List Tg) (r : Ru) (gx : Nat) (w : World) (hr : TR w (.slice ao n c) n ts) (hg : w.heap[gx]? = some (.cells #[.int .i64 r.typ, .int .i64 r.size, .int .i64 r.kind, .int .i64 r.low, .int .i64 r.high, .int .i64 r.good, .bool r.must] 39)) (hn : n ≤ 1000) :
    Calls Try.prog 43 #[.slice ao n c, .func (.func 44) #[] #[.pointer (some ⟨gx, 0, none⟩)]] w fun e w' => e = .returned (.bool (hasT (plain ts) r.typ)) ∧ Below w.heap.size w w' := by
  have IX := Lib.hid (indexFunc_any ao n c ts r gx w hr hg hn)
  clear hr hg
  go_enter Try.func43, Try.ntmps43
  go_wp2_with fail
  refine IX.out.mono ?_
  rintro e w2 ⟨⟨i, rfl, hi⟩, hb2⟩
  have HI := Lib.hid hi
  have HB2 := Lib.hid hb2
  clear hi hb2
  go_wp2
  go_ret
  exact ⟨by rw [← HI.out]; simp, HB2.out⟩

/-- What lacks, of the first k rules. -/
def lackTo (rs : List Ru) (l : List PT) (k : Nat) : List PT := lacks (rs.take k) l
theorem lackTo_succ (rs : List Ru) (l : List PT) (k : Nat) (h : k < rs.length) : lackTo rs l (k + 1) = lackTo rs l k ++ (if rs[k].must && !hasT l rs[k].typ then [goodO rs[k]] else []) := by
  unfold lackTo lacks
  rw [List.take_succ_eq_append_getElem h, List.filter_append, List.map_append]
  congr 1
  cases h : (rs[k].must && !hasT l rs[k].typ) <;> simp [List.filter_cons, h]
theorem lackTo_length (rs : List Ru) (l : List PT) (k : Nat) : (lackTo rs l k).length ≤ k := by
  unfold lackTo lacks
  rw [List.length_map]
  exact Nat.le_trans (List.length_filter_le _ _) (by rw [List.length_take]; omega)

set_option maxRecDepth 20000 in
set_option maxHeartbeats 4000000 in
theorem lacking_any (ra : Option Addr) (rn rc : Nat) (rs : List Ru) (ha : areR rs) (ao : Option Addr) (n c : Nat) (ts : List Tg) (w : World) (hrr : RR w (.slice ra rn rc) rn rs) (hr : TR w (.slice ao n c) n ts) (hn : n ≤ 1000) :
    Calls Try.prog 26 #[.slice ra rn rc, .slice ao n c] w fun e w' => ∃ v us, e = .returned v ∧ plain us = lacks rs (plain ts) ∧ TO w' w.heap.size v us ∧ Below w.heap.size w w' := by
  obtain ⟨i0, hi, hz0, hz1, hz2⟩ := info_parts infoT
  have hl := hrr.len
  have h16 : rn ≤ 16 := by rw [← hl]; exact ha.1
  have HRR := Lib.hid hrr
  have HR := Lib.hid hr
  have HA := Lib.hid ha
  clear hr hrr ha
  go_enter Try.func26, Try.ntmps26
  go_wp2
  go_loopw [5, 11] (fun ov iv wr => ∃ (k : Nat) (us : List Tg) (lv : Value), k ≤ rn ∧ iv = .int .i64 k ∧ lv = ov ∧ plain us = lackTo rs (plain ts) k ∧ TO wr w.heap.size lv us ∧ Below w.heap.size w wr) (fun _ iv _ => rn - (intOf iv).toNat)
  case atStart => exact ⟨0, [], _, Nat.zero_le _, rfl, rfl, rfl, TO.nil _ _, Below.refl _ _⟩
  case round =>
    obtain ⟨k, us, lv, hk, rfl, rfl, hus, hto, hb⟩ := hrel
    have HUS := Lib.hid hus
    have HTO := Lib.hid hto
    have HB := Lib.hid hb
    have HBN := Lib.hid hb.size
    clear hus hto hb
    by_cases hlt : k < rn
    · obtain ⟨b, o, rfl, hbl, hc⟩ := (HRR.out.below HB.out).cells (by omega)
      obtain ⟨c0, c1, c2, c3, c4, c5, c6⟩ := hc k (by omega)
      obtain ⟨r, hr⟩ : ∃ r, r = rs[k] := ⟨_, rfl⟩
      rw [← hr] at c0 c1 c2 c3 c4 c5 c6
      have HRK := Lib.hid hr
      have hal : Gr wr (wr.alloc (.cells #[.int .i64 r.typ, .int .i64 r.size, .int .i64 r.kind, .int .i64 r.low, .int .i64 r.high, .int .i64 r.good, .bool r.must] 39)) := (Gr.refl wr).alloc _
      have HB1 := Lib.hid (HB.out.trans (Below.mono hal HBN.out))
      have HTO1 := Lib.hid (HTO.out.below hal)
      have HGC : Hid ((wr.alloc (.cells #[.int .i64 r.typ, .int .i64 r.size, .int .i64 r.kind, .int .i64 r.low, .int .i64 r.high, .int .i64 r.good, .bool r.must] 39)).heap[wr.heap.size]? = some (.cells #[.int .i64 r.typ, .int .i64 r.size, .int .i64 r.kind, .int .i64 r.low, .int .i64 r.high, .int .i64 r.good, .bool r.must] 39)) := heap_alloc_last _ _
      have CF := Lib.hid (contains_any ao n c ts r wr.heap.size (wr.alloc (.cells #[.int .i64 r.typ, .int .i64 r.size, .int .i64 r.kind, .int .i64 r.low, .int .i64 r.high, .int .i64 r.good, .bool r.must] 39)) (HR.out.below HB1.out) HGC.out hn)
      have HIS : Hid (isR r) := by show isR r; rw [hr]; exact areR_at HA.out k (by omega)
      obtain ⟨q, hq⟩ : ∃ q, q = hasT (plain ts) r.typ := ⟨_, rfl⟩
      rw [← hq] at CF
      have HQ := Lib.hid hq
      clear hr hc hal hq
      go_wp2_with fail
      refine CF.out.mono ?_
      rintro e w2 ⟨rfl, hb2⟩
      have HB2 := Lib.hid (HB1.out.trans (hb2.mono HB1.out.size))
      have HTO2 := Lib.hid (HTO1.out.below hb2)
      have HG2 := Lib.hid (heap_below HGC.out hb2)
      obtain ⟨x0, x1, x2, x3, x4, x5, x6⟩ := cells7 HG2.out
      have HOUT : Hid (lackTo rs (plain ts) (k + 1) = lackTo rs (plain ts) k ++ (if r.must && !q then [goodO r] else [])) := by
        show _ = _
        rw [lackTo_succ _ _ _ (by omega), ← HRK.out, HQ.out]
      have GO := Lib.hid (good_any r w2 HIS.out)
      have HMU : Hid (r.must = true ∨ r.must = false) := by show _ ∨ _; cases r.must <;> simp
      clear hb2 c0 c1 c2 c3 c4 c5 c6 CF
      by_cases hd : (r.must && !q) = true
      · have hm1 : r.must = true := by cases h : r.must <;> simp_all
        have hq1 : q = false := by cases h : q <;> simp_all
        subst hq1
        rw [if_pos hd] at HOUT
        rw [hm1] at x6 GO
        clear hd hm1
        go_wp2_with fail
        refine GO.out.mono ?_
        rintro e w3 ⟨v, rfl, hown, hb3⟩
        obtain ⟨A3, L3, C3, ev, hL3, _, _⟩ := hown.bs.sl
        subst ev
        have hal3 : Gr w3 (w3.alloc (.cells #[.int .i64 r.typ, .slice A3 L3 C3] 42)) := (Gr.refl _).alloc _
        have HB3 := Lib.hid ((HB2.out.trans (hb3.mono HB2.out.size)).trans (Below.mono hal3 (Nat.le_trans HB2.out.size hb3.size)))
        have HTO3 := Lib.hid ((HTO2.out.below hb3).below hal3)
        have HO3 := Lib.hid ((hown.below hal3).mono (base' := w.heap.size) HB2.out.size)
        have HRD := Lib.hid (rd_new w3 [.int .i64 r.typ, .slice A3 L3 C3] 42 1 2 rfl (by decide))
        have hus : us.length ≤ 16 := by
          have h1 := lackTo_length rs (plain ts) k
          rw [← HUS.out, plain_length] at h1
          omega
        clear hown hb3 hL3 hal3 x0 x1 x2 x3 x4 x5 x6
        go_wp2_with (at_builtin; refine wpList_append_gr _ rfl (.tmp 24) (.tmp 27) 23 rfl w.heap.size 42 i0 _ 2 32 Try.underlying23 hi hz0 hz1 hz2 rfl (by decide) _ _ _ rfl HTO3.out.own _ 1 _ rfl HRD.out (one_tag r.typ rfl) ?p4 (by decide) HB3.out.size ?_)
        case p4 => omega
        intro v' wo ho' hg'
        have HTO4 : Hid (TO wo w.heap.size v' (us ++ [⟨r.typ, .slice A3 L3 C3, (goodO r).2⟩])) := HTO3.out.more HO3.out ho' hg'
        have HB4 := Lib.hid (HB3.out.trans (grown_below HTO3.out.own HB3.out.size hg'))
        clear ho' hg'
        go_wp2
        go_roundw
        case rel =>
          have HU : plain (us ++ [(⟨r.typ, .slice A3 L3 C3, (goodO r).2⟩ : Tg)]) = lackTo rs (plain ts) (k + 1) := by rw [HOUT.out, plain_append, HUS.out]; rfl
          first | exact ⟨k + 1, _, _, by omega, by go_num, rfl, HU, HTO4.out, HB4.out⟩ | ((repeat apply Exists.intro); exact ⟨⟨k + 1, _, _, by omega, by go_num, rfl, HU, HTO4.out, HB4.out⟩, rfl⟩)
        case measure => simp [intOf]; omega
      · rw [if_neg hd, List.append_nil] at HOUT
        have hd2 : (r.must && !q) = false := by simpa using hd
        clear hd
        have HU : Hid (plain us = lackTo rs (plain ts) (k + 1)) := by show _ = _; rw [HOUT.out]; exact HUS.out
        rcases HMU.out with hm1 | hm1
        · have hq1 : q = true := by cases h : q <;> simp_all
          subst hq1
          rw [hm1] at x6
          clear hd2 hm1
          go_wp2
          go_roundw
          case rel =>
            first | exact ⟨k + 1, us, _, by omega, by go_num, rfl, HU.out, HTO2.out, HB2.out⟩ | ((repeat apply Exists.intro); exact ⟨⟨k + 1, us, _, by omega, by go_num, rfl, HU.out, HTO2.out, HB2.out⟩, rfl⟩)
          case measure => simp [intOf]; omega
        · rw [hm1] at x6
          clear hd2 hm1
          go_wp2
          go_roundw
          case rel =>
            first | exact ⟨k + 1, us, _, by omega, by go_num, rfl, HU.out, HTO2.out, HB2.out⟩ | ((repeat apply Exists.intro); exact ⟨⟨k + 1, us, _, by omega, by go_num, rfl, HU.out, HTO2.out, HB2.out⟩, rfl⟩)
          case measure => simp [intOf]; omega
    · obtain rfl : k = rn := by omega
      have HU : Hid (plain us = lacks rs (plain ts)) := by
        show _ = _
        rw [HUS.out]
        unfold lackTo
        rw [List.take_of_length_le (by omega)]
      obtain ⟨a', c', ev, _, _⟩ := HTO.out.tr.shape
      subst ev
      go_wp2
      go_ret
      exact ⟨_, us, rfl, HU.out, HTO.out, HB.out⟩
end Go.Proofs.Ytbldcjngccmhpaa.Ng
