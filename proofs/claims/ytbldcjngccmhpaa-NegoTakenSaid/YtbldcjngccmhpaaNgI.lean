/-
  nego.Answer.
-/
import Derived.Test.YtbldcjngccmhpaaNgG
import Derived.Test.YtbldcjngccmhpaaNgH
namespace Go.Proofs.Ytbldcjngccmhpaa.Ng
open Go.RowKit O
set_option linter.unusedVariables false
set_option linter.unusedSimpArgs false
/-- What a function tells that tells a code and options of its own. -/
def ARes (x : Int × List PT) (w : World) (e : Ending) (w' : World) : Prop := ∃ v us, e = .returned (.tuple #[.int .i64 x.1, v]) ∧ plain us = x.2 ∧ TO w' w.heap.size v us ∧ Below w.heap.size w w'
theorem ARes.of {x : Int × List PT} {w w' : World} (k : Int) (l : List PT) (v : Value) (us : List Tg) (h : x = (k, l)) (h1 : plain us = l) (h2 : TO w' w.heap.size v us) (h3 : Below w.heap.size w w') : ARes x w (.returned (.tuple #[.int .i64 k, v])) w' := by
  subst h
  exact ⟨v, us, rfl, h1, h2, h3⟩
theorem TO.join {w w' : World} {base : Nat} {v v' : Value} {ts us : List Tg} (h : TO w base v ts) (h2 : ∀ t ∈ us, OwnB w base 5 t.val t.l) (ho : w'.ownsRow base 42 2 v' (ts.length + us.length) (flat ts ++ flat us)) (hg : w.grownBy w' v.ownBlock) :
    TO w' base v' (ts ++ us) := by
  refine ⟨?_, fun u hu => ?_⟩
  · rw [flat_append, List.length_append]; exact ho
  · rcases List.mem_append.1 hu with hu | hu
    · exact (h.vals u hu).kept hg (own_ne_block (h.vals u hu) h.own (by decide))
    · exact (h2 u hu).kept hg (own_ne_block (h2 u hu) h.own (by decide))
theorem flat_one (ts : List Tg) (w : World) (h : ∀ t ∈ ts, ∃ l, Bs w t.val l) : ∀ u ∈ flat ts, u.oneCell' = true := by
  intro u hu
  unfold flat at hu
  obtain ⟨t, ht, hu⟩ := List.mem_flatMap.1 hu
  obtain ⟨l, hb⟩ := h t ht
  exact one_tag t.typ hb.oneCell u hu
theorem rejs_fit {rs : List Ru} {ts : List Tg} (h : rejs rs [] (plain ts) = []) : ∀ x ∈ ts, (ruleOf rs (x.typ, x.l)).isSome = true := fun x hx => ((rejs_nil h).1 (x.typ, x.l) (List.mem_map.2 ⟨x, hx, rfl⟩)).1
theorem refd_fit {rs : List Ru} {l : List PT} {us : List Tg} (h : plain us = l.filterMap (refd rs)) (hl : ∀ o ∈ l, (ruleOf rs o).isSome = true) : ∀ x ∈ us, (ruleOf rs (x.typ, x.l)).isSome = true ∧ (x.typ, x.l) ∈ l := fun x hx => by
  have h1 : (x.typ, x.l) ∈ plain us := List.mem_map.2 ⟨x, hx, rfl⟩
  rw [h] at h1
  obtain ⟨o, ho, e⟩ := List.mem_filterMap.1 h1
  unfold refd at e
  have h2 := hl o ho
  cases hr : ruleOf rs o with
  | none => rw [hr] at h2; cases h2
  | some r =>
    rw [hr] at e
    simp only at e
    split at e
    · cases e
    · obtain rfl := Option.some.inj e
      exact ⟨h2, ho⟩
theorem ans_no {rs : List Ru} {l : List PT} {n m : Int} (h : ¬ areR rs) : ans rs l n m = (0, []) := by unfold ans; rw [if_pos h]
theorem ans_rej {rs : List Ru} {l : List PT} {n m : Int} (h : areR rs) (h1 : rejs rs [] l ≠ []) : ans rs l n m = (4, rejs rs [] l) := by unfold ans; rw [if_neg (by simpa using h), if_pos h1]
theorem ans_all {rs : List Ru} {l : List PT} {n m : Int} (h : areR rs) (h1 : rejs rs [] l = []) (h2 : l.filterMap (refd rs) = []) (h3 : lacks rs l = []) : ans rs l n m = (2, l) := by
  have hb := (bads_eq h1).1
  rw [h2] at hb
  unfold ans
  rw [if_neg (by simpa using h), if_neg (by simpa using h1), if_pos (by rw [List.map_eq_nil_iff.1 hb, h3]; rfl)]
theorem ans_some {rs : List Ru} {l : List PT} {n m : Int} (h : areR rs) (h1 : rejs rs [] l = []) (h2 : ¬ (l.filterMap (refd rs) = [] ∧ lacks rs l = [])) :
    ans rs l n m = if m ≤ n ∧ l.filterMap (refd rs) ≠ [] then (4, l.filterMap (refd rs)) else (3, (l.filterMap (refd rs)).filterMap (mendd rs) ++ lacks rs l) := by
  have hb := bads_eq h1
  have hn : ¬ ((bads rs [] l).map (·.2) ++ lacks rs l = []) := fun e => by
    have e2 := List.append_eq_nil_iff.1 e
    have e3 := List.map_eq_nil_iff.1 e2.1
    rw [e3] at hb
    exact h2 ⟨hb.1.symm, e2.2⟩
  have hi : bads rs [] l ≠ [] ↔ l.filterMap (refd rs) ≠ [] := by rw [← hb.1]; simp
  unfold ans
  rw [if_neg (by simpa using h), if_neg (by simpa using h1), if_neg hn]
  simp only [hi, ← hb.1, hb.2]

set_option maxRecDepth 20000 in
set_option maxHeartbeats 4000000 in
theorem answer_any (ra : Option Addr) (rn rc : Nat) (rs : List Ru) (ao : Option Addr) (n c : Nat) (ts : List Tg) (naks most : Int) (w : World) (hrr : RR w (.slice ra rn rc) rn rs) (hr : TR w (.slice ao n c) n ts) (hn : n ≤ 1000) (hm : ∀ x ∈ ts, x.l.length ≤ 1000) :
    Calls Try.prog 11 #[.slice ra rn rc, .slice ao n c, .int .i64 naks, .int .i64 most] w (ARes (ans rs (plain ts) naks most) w) := by
  obtain ⟨i0, hi, hz0, hz1, hz2⟩ := info_parts infoT
  have HL := Lib.hid hr.len
  have HRR := Lib.hid hrr
  have HR := Lib.hid hr
  have HM := Lib.hid hm
  have MB := Lib.hid (mayBes_any ra rn rc rs w hrr)
  clear hr hrr hm
  by_cases ha : areR rs
  · rw [decide_eq_true ha] at MB
    have HA := Lib.hid ha
    clear ha
    go_enter Try.func11, Try.ntmps11
    go_wp2_with fail
    refine MB.out.mono ?_
    rintro e w1 ⟨rfl, hb1⟩
    have HB1 := Lib.hid hb1
    have MI := Lib.hid (misfits_any ra rn rc rs HA.out ao n c ts w1 (HRR.out.below hb1) (HR.out.below hb1) hn HM.out)
    clear hb1 MB
    go_wp2_with fail
    refine MI.out.mono ?_
    rintro e w2 ⟨v2, us2, rfl, hp2, hto2, hb2⟩
    have HB2 := Lib.hid (HB1.out.trans (hb2.mono HB1.out.size))
    have HP2 := Lib.hid hp2
    have HTO2 := Lib.hid (hto2.mono HB1.out.size)
    obtain ⟨a2, c2, ev, _, _⟩ := hto2.tr.shape
    subst ev
    obtain ⟨m2, hm2⟩ : ∃ m, m = us2.length := ⟨_, rfl⟩
    have HM2 := Lib.hid hm2
    rw [← hm2] at HTO2 ⊢
    clear hp2 hto2 hb2 hm2 MI
    by_cases h2 : m2 = 0
    · subst h2
      have HJ : Hid (rejs rs [] (plain ts) = []) := by
        show _ = _
        rw [← HP2.out]; exact plain_nil_iff.2 HM2.out.symm
      have RF := Lib.hid (refused_any ra rn rc rs HA.out ao n c ts w2 (HRR.out.below HB2.out) (HR.out.below HB2.out) hn HM.out (rejs_fit HJ.out))
      clear HP2 HTO2 HM2
      go_wp2_with fail
      refine RF.out.mono ?_
      rintro e w3 ⟨v3, us3, rfl, hp3, hto3, hb3⟩
      have HB3 := Lib.hid (HB2.out.trans (hb3.mono HB2.out.size))
      have HP3 := Lib.hid hp3
      have HTO3 := Lib.hid (hto3.mono HB2.out.size)
      have LK := Lib.hid (lacking_any ra rn rc rs HA.out ao n c ts w3 (HRR.out.below HB3.out) (HR.out.below HB3.out) hn)
      clear hp3 hto3 hb3 RF
      go_wp2_with fail
      refine LK.out.mono ?_
      rintro e w4 ⟨v4, us4, rfl, hp4, hto4, hb4⟩
      have HB4 := Lib.hid (HB3.out.trans (hb4.mono HB3.out.size))
      have HP4 := Lib.hid hp4
      have HTO4 := Lib.hid (hto4.mono HB3.out.size)
      have HTO34 := Lib.hid (HTO3.out.below hb4)
      obtain ⟨a3, c3, ev, _, _⟩ := HTO3.out.tr.shape
      subst ev
      obtain ⟨a4, c4, ev, _, _⟩ := hto4.tr.shape
      subst ev
      have hn3 : us3.length ≤ 1000 := by
        rw [← plain_length, HP3.out]
        exact Nat.le_trans (List.length_filterMap_le _ _) (by rw [plain_length, HL.out]; exact hn)
      have hn4 : us4.length ≤ 16 := by
        rw [← plain_length, HP4.out]
        exact Nat.le_trans (lackTo_length rs (plain ts) rs.length |> fun h => by unfold lackTo at h; rwa [List.take_length] at h) HA.out.1
      obtain ⟨m3, hm3⟩ : ∃ m, m = us3.length := ⟨_, rfl⟩
      obtain ⟨m4, hm4⟩ : ∃ m, m = us4.length := ⟨_, rfl⟩
      have HM3 := Lib.hid hm3
      have HM4 := Lib.hid hm4
      rw [← hm3] at HTO34 hn3 ⊢
      rw [← hm4] at HTO4 hn4 ⊢
      have HE3 : Hid (m3 = 0 ↔ (plain ts).filterMap (refd rs) = []) := by
        show _ ↔ _
        rw [← HP3.out, plain_nil_iff, hm3]
      have HE4 : Hid (m4 = 0 ↔ lacks rs (plain ts) = []) := by
        show _ ↔ _
        rw [← HP4.out, plain_nil_iff, hm4]
      clear hp4 hto4 hb4 LK hm3 hm4 HTO3
      by_cases h34 : m3 = 0 ∧ m4 = 0
      · obtain ⟨rfl, rfl⟩ := h34
        have HANS : Hid (ans rs (plain ts) naks most = (2, plain ts)) := ans_all HA.out HJ.out (HE3.out.1 rfl) (HE4.out.1 rfl)
        have CO := Lib.hid (copies_any ao n c ts w4 (HR.out.below HB4.out) hn HM.out)
        go_wp2_with fail
        refine CO.out.mono ?_
        rintro e w5 ⟨v5, us5, rfl, hp5, hto5, hb5⟩
        have HB5 := Lib.hid (HB4.out.trans (hb5.mono HB4.out.size))
        have HP5 := Lib.hid hp5
        have HTO5 := Lib.hid (hto5.mono HB4.out.size)
        clear hp5 hto5 hb5 CO
        go_wp2
        go_ret2
        exact ARes.of 2 _ _ us5 HANS.out HP5.out HTO5.out HB5.out
      · have HS := Lib.hid (ans_some (n := naks) (m := most) HA.out HJ.out (fun h => h34 ⟨HE3.out.2 h.1, HE4.out.2 h.2⟩))
        by_cases h3 : m3 = 0
        · subst h3
          have HE30 := Lib.hid (HE3.out.1 rfl)
          have h4 : m4 ≠ 0 := fun h => h34 ⟨rfl, h⟩
          have h4b : ((m4 : Int) == 0) = false := by simpa using h4
          have hz4 : ¬ (m4 : Int) = 0 := by omega
          clear h34 h4
          by_cases hnm : naks < most
          · skip
            have HNK : Hid (¬ (most ≤ naks ∧ (plain ts).filterMap (refd rs) ≠ [])) := fun h => by have := h.1; omega
            have HRS := Lib.hid (fun x hx => (refd_fit HP3.out (fun o ho => by obtain ⟨y, hy, rfl⟩ := List.mem_map.1 ho; exact rejs_fit HJ.out y hy) x hx))
            have HM34 : Hid (∀ x ∈ us3, x.l.length ≤ 1000) := fun x hx => by
              obtain ⟨y, hy, e⟩ := List.mem_map.1 (HRS.out x hx).2
              have e2 : y.l = x.l := congrArg Prod.snd e
              rw [← e2]; exact HM.out y hy
            have MD := Lib.hid (mended_any ra rn rc rs HA.out a3 0 c3 us3 w4 (HRR.out.below HB4.out) (by have := HTO34.out.tr; rwa [← HM3.out] at this) (by omega) HM34.out (fun x hx => (HRS.out x hx).1))
            go_wp2_with fail
            refine MD.out.mono ?_
            rintro e w5 ⟨v5, us5, rfl, hp5, hto5, hb5⟩
            have HB5 := Lib.hid (HB4.out.trans (hb5.mono HB4.out.size))
            have HP5 := Lib.hid hp5
            have HTO5 := Lib.hid (hto5.mono HB4.out.size)
            have HTO45 := Lib.hid (HTO4.out.below hb5)
            have HRD := Lib.hid (by have := HTO45.out.tr.rd; rwa [← HM4.out] at this : Rd w5 2 (.slice a4 m4 c4) m4 (flat us4))
            have hn5 : us5.length ≤ 1000 := by
              rw [← plain_length, HP5.out]
              exact Nat.le_trans (List.length_filterMap_le _ _) (by rw [plain_length, ← HM3.out]; omega)
            clear hp5 hto5 hb5 MD
            go_wp2_with (at_builtin; refine wpList_append_gr _ rfl (.tmp 48) (.tmp 49) 23 rfl w.heap.size 42 i0 _ 2 32 Try.underlying23 hi hz0 hz1 hz2 rfl (by decide) _ us5.length _ rfl HTO5.out.own _ m4 _ rfl HRD.out (flat_one us4 w5 fun x hx => ⟨_, (HTO45.out.vals x hx).bs⟩) ?p4 (by decide) HB5.out.size ?_)
            case p4 => omega
            intro v' wo ho' hg'
            have HTO6 : Hid (TO wo w.heap.size v' (us5 ++ us4)) := TO.join HTO5.out HTO45.out.vals (by rw [← HM4.out]; exact ho') hg'
            have HB6 := Lib.hid (HB5.out.trans (grown_below HTO5.out.own HB5.out.size hg'))
            clear ho' hg'
            go_wp2
            go_ret2
            exact ARes.of 3 _ _ (us5 ++ us4) (HS.out.trans (if_neg HNK.out)) (by rw [plain_append, HP5.out, HP3.out, HP4.out]) HTO6.out HB6.out
          · have HNK : Hid (¬ (most ≤ naks ∧ (plain ts).filterMap (refd rs) ≠ [])) := fun h => h.2 HE30.out
            go_wp2
            go_ret2
            exact ARes.of 3 _ _ us4 (HS.out.trans (if_neg HNK.out)) (by rw [HE30.out, HP4.out]; rfl) (by have := HTO4.out; rwa [HM4.out] at this) HB4.out
        · have h3b : ((m3 : Int) == 0) = false := by simpa using h3
          have hz3 : ¬ (m3 : Int) = 0 := by omega
          have H3N := Lib.hid h3
          clear h34 h3
          by_cases hnm : naks < most
          · skip
            have HNK : Hid (¬ (most ≤ naks ∧ (plain ts).filterMap (refd rs) ≠ [])) := fun h => by have := h.1; omega
            have HRS := Lib.hid (fun x hx => (refd_fit HP3.out (fun o ho => by obtain ⟨y, hy, rfl⟩ := List.mem_map.1 ho; exact rejs_fit HJ.out y hy) x hx))
            have HM34 : Hid (∀ x ∈ us3, x.l.length ≤ 1000) := fun x hx => by
              obtain ⟨y, hy, e⟩ := List.mem_map.1 (HRS.out x hx).2
              have e2 : y.l = x.l := congrArg Prod.snd e
              rw [← e2]; exact HM.out y hy
            have MD := Lib.hid (mended_any ra rn rc rs HA.out a3 m3 c3 us3 w4 (HRR.out.below HB4.out) (by have := HTO34.out.tr; rwa [← HM3.out] at this) (by omega) HM34.out (fun x hx => (HRS.out x hx).1))
            go_wp2_with fail
            refine MD.out.mono ?_
            rintro e w5 ⟨v5, us5, rfl, hp5, hto5, hb5⟩
            have HB5 := Lib.hid (HB4.out.trans (hb5.mono HB4.out.size))
            have HP5 := Lib.hid hp5
            have HTO5 := Lib.hid (hto5.mono HB4.out.size)
            have HTO45 := Lib.hid (HTO4.out.below hb5)
            have HRD := Lib.hid (by have := HTO45.out.tr.rd; rwa [← HM4.out] at this : Rd w5 2 (.slice a4 m4 c4) m4 (flat us4))
            have hn5 : us5.length ≤ 1000 := by
              rw [← plain_length, HP5.out]
              exact Nat.le_trans (List.length_filterMap_le _ _) (by rw [plain_length, ← HM3.out]; omega)
            clear hp5 hto5 hb5 MD
            go_wp2_with (at_builtin; refine wpList_append_gr _ rfl (.tmp 48) (.tmp 49) 23 rfl w.heap.size 42 i0 _ 2 32 Try.underlying23 hi hz0 hz1 hz2 rfl (by decide) _ us5.length _ rfl HTO5.out.own _ m4 _ rfl HRD.out (flat_one us4 w5 fun x hx => ⟨_, (HTO45.out.vals x hx).bs⟩) ?p4 (by decide) HB5.out.size ?_)
            case p4 => omega
            intro v' wo ho' hg'
            have HTO6 : Hid (TO wo w.heap.size v' (us5 ++ us4)) := TO.join HTO5.out HTO45.out.vals (by rw [← HM4.out]; exact ho') hg'
            have HB6 := Lib.hid (HB5.out.trans (grown_below HTO5.out.own HB5.out.size hg'))
            clear ho' hg'
            go_wp2
            go_ret2
            exact ARes.of 3 _ _ (us5 ++ us4) (HS.out.trans (if_neg HNK.out)) (by rw [plain_append, HP5.out, HP3.out, HP4.out]) HTO6.out HB6.out
          · have HNK : Hid (most ≤ naks ∧ (plain ts).filterMap (refd rs) ≠ []) := ⟨by omega, fun h => H3N.out (HE3.out.2 h)⟩
            have hp3 : (0 : Int) < (m3 : Int) := by omega
            go_wp2
            go_ret2
            exact ARes.of 4 _ _ us3 (HS.out.trans (if_pos HNK.out)) HP3.out (by have := HTO34.out; rwa [HM3.out] at this) HB4.out
    · have HANS : Hid (ans rs (plain ts) naks most = (4, rejs rs [] (plain ts))) := ans_rej HA.out (fun h => h2 (by rw [HM2.out, ← plain_nil_iff, HP2.out, h]))
      have hp2 : (0 : Int) < (m2 : Int) := by omega
      clear h2
      go_wp2
      go_ret2
      exact ARes.of 4 _ _ us2 HANS.out HP2.out (by have := HTO2.out; rwa [HM2.out] at this) HB2.out
  · rw [decide_eq_false ha] at MB
    have HANS : Hid (ans rs (plain ts) naks most = (0, [])) := ans_no ha
    clear ha
    go_enter Try.func11, Try.ntmps11
    go_wp2_with fail
    refine MB.out.mono ?_
    rintro e w1 ⟨rfl, hb1⟩
    have HB1 := Lib.hid hb1
    clear hb1 MB
    go_wp2
    go_ret2
    exact ARes.of 0 _ _ [] HANS.out rfl (TO.nil _ _) HB1.out
end Go.Proofs.Ytbldcjngccmhpaa.Ng
