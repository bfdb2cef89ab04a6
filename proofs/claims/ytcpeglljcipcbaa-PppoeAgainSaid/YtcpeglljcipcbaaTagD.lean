/-
  tags.Find, tags.All, tags.Without, whatever comes.
-/
import Derived.Test.YtcpeglljcipcbaaTagC
namespace Go.Proofs.Ytcpeglljcipcbaa
open Go.RowKit
set_option linter.unusedVariables false
set_option linter.unusedSimpArgs false

/-- The first of a type. -/
def findT (ts : List Tg) (t : Int) : Option Tg := ts.find? fun x => decide (x.typ = t)
def findL (ts : List Tg) (t : Int) : List UInt8 := ((findT ts t).map (·.l)).getD []
theorem findT_at (ts : List Tg) (t : Int) (k : Nat) (h : k < ts.length) (h1 : ∀ j (hj : j < k), (ts[j]'(by omega)).typ ≠ t) (h2 : ts[k].typ = t) : findT ts t = some ts[k] := by
  unfold findT
  rw [List.find?_eq_some_iff_getElem]
  refine ⟨by simpa using h2, k, h, rfl, fun j hj => by simpa using h1 j hj⟩
theorem findT_none (ts : List Tg) (t : Int) (h1 : ∀ j (hj : j < ts.length), ts[j].typ ≠ t) : findT ts t = none := by
  unfold findT
  rw [List.find?_eq_none]
  intro x hx
  obtain ⟨i, hi, rfl⟩ := List.mem_iff_getElem.1 hx
  simpa using h1 i hi
set_option maxHeartbeats 1000000 in
theorem find_any (ao : Option Addr) (n c : Nat) (ts : List Tg) (t : Int) (w : World) (hr : TR w (.slice ao n c) n ts) (hn : n ≤ 1000) (hm : ∀ x ∈ ts, x.l.length ≤ 140737488351232) :
    Calls Try.prog 42 #[.slice ao n c, .int .i64 t] w fun e w' => ∃ v, e = .returned (.tuple #[v, .bool (findT ts t).isSome]) ∧ OwnB w' w.heap.size 5 v (findL ts t) ∧ Below w.heap.size w w' := by
  have hl := hr.len
  have HS : Hid ((Try.prog.info? 61).map (·.size) = some 2) := sizeT
  go_enter Try.func42, Try.ntmps42
  go_wp2
  go_loopw [10] (fun iv wr => ∃ k : Nat, k ≤ n ∧ iv = .int .i64 k ∧ (∀ j (hj : j < k) (h2 : j < ts.length), ts[j].typ ≠ t) ∧ Below w.heap.size w wr) (fun iv _ => n - (intOf iv).toNat)
  case atStart => exact ⟨0, Nat.zero_le _, rfl, fun j hj => by omega, Below.refl _ _⟩
  case round =>
    obtain ⟨k, hk, rfl, hne, hb⟩ := hrel
    by_cases hlt : k < n
    · obtain ⟨b, o, rfl, hbl, hc⟩ := (hr.below hb).cells (by omega)
      obtain ⟨hc0, hc1⟩ := hc k (by omega)
      have HV := Lib.hid (hr.val k (by omega))
      obtain ⟨A, L, C, hv, hL, hLC, hCm⟩ := HV.out.sl
      rw [hv] at hc1
      have HE := Lib.hid hv
      have HL := Lib.hid hL
      have HM := Lib.hid (hm ts[k] (List.getElem_mem _))
      obtain ⟨T, hT⟩ : ∃ T, T = ts[k].typ := ⟨_, rfl⟩
      rw [← hT] at hc0
      have HTT := Lib.hid hT
      have HNE := Lib.hid hne
      have HB := Lib.hid hb
      have HR : Hid (wr.rangeAt b (o + k * 2) [.int .i64 T, .slice A L C]) := by
        intro j u hj
        match j, hj with
        | 0, hj => obtain rfl := Option.some.inj hj; exact hc0
        | 1, hj => obtain rfl := Option.some.inj hj; exact hc1
      have HBN := Lib.hid (hb.size)
      clear hv hL hT hc hne hb hm
      by_cases ht : T = t
      · subst ht
        have HF : Hid (findT ts T = some ts[k]) := findT_at ts T k (by omega) (fun j hj => HNE.out j hj (by omega)) HTT.out.symm
        have CL := Lib.hid (clone_any (wr.alloc (.cells #[.int .i64 T, .slice A L C] 61)) A L C ts[k].l HL.out (by
          have := (HV.out.below HB.out).below ((Below.refl _ _).alloc (Nat.le_refl _) (.cells #[.int .i64 T, .slice A L C] 61))
          rwa [HE.out] at this) (by have := HM.out; have := HL.out; omega))
        clear hr
        go_wp2_with fail
        refine CL.out.mono ?_
        rintro e w1 ⟨v1, rfl, hown1, hb1⟩
        have hbn := HBN.out
        have HO1 := Lib.hid (hown1.mono (base' := w.heap.size) (by simp; omega))
        have HB1 := Lib.hid (HB.out.trans ((((Below.refl _ _).alloc (Nat.le_refl _) _).mono HBN.out).trans (hb1.mono (by simp; omega))))
        clear hown1 hb1
        go_wp2
        go_ret2
        refine ⟨_, by rw [HF.out]; rfl, ?_, HB1.out⟩
        unfold findL
        rw [HF.out]
        exact HO1.out
      · have htf : (T == t) = false := by simpa using ht
        have HT := Lib.hid ht
        clear ht
        go_wp2
        go_roundw
        case rel =>
          have HB1 := HB.out.trans (((Below.refl wr.heap.size wr).alloc (Nat.le_refl _) (.cells #[.int .i64 T, .slice A L C] 61)).mono HBN.out)
          have HN1 : ∀ j (hj : j < k + 1) (h2 : j < ts.length), ts[j].typ ≠ t := fun j hj h2 => by
            by_cases e : j = k
            · subst e; rw [← HTT.out]; exact HT.out
            · exact HNE.out j (by omega) h2
          first | exact ⟨k + 1, by omega, by go_num, HN1, HB1⟩ | ((repeat apply Exists.intro); exact ⟨⟨k + 1, by omega, by go_num, HN1, HB1⟩, rfl⟩)
        case measure => simp [intOf]; omega
    · obtain rfl : k = n := by omega
      have HB := Lib.hid hb
      have HF := Lib.hid (findT_none ts t fun j hj => hne j (by omega) hj)
      clear hb
      go_wp2
      go_ret2
      refine ⟨_, by rw [HF.out]; rfl, ?_, HB.out⟩
      unfold findL
      rw [HF.out]
      exact OwnB.nil _ _ _

/-- The slices of the call's own, each of bytes of the call's own. -/
structure SO (w : World) (base : Nat) (v : Value) (ts : List Tg) : Prop where
  own : w.ownsRow base 22 1 v ts.length (vals ts)
  vs : ∀ t ∈ ts, OwnB w base 5 t.val t.l
theorem SO.sr {w : World} {base : Nat} {v : Value} {ts : List Tg} (h : SO w base v ts) : SR w v ts.length ts := ⟨own_rd h.own, fun t ht => (h.vs t ht).bs⟩
theorem SO.nil (w : World) (base : Nat) : SO w base (.slice none 0 0) [] := ⟨World.ownsRow_nil w base _ 1, fun t h => by cases h⟩
theorem SO.below {w w' : World} {base : Nat} {v : Value} {ts : List Tg} (h : SO w base v ts) (hb : Below w.heap.size w w') : SO w' base v ts := ⟨ownsRow_below h.own hb, fun t ht => (h.vs t ht).below hb⟩
theorem SO.more {w w' : World} {base : Nat} {v v' : Value} {ts : List Tg} {t : Tg} (h : SO w base v ts) (ht : OwnB w base 5 t.val t.l) (ho : w'.ownsRow base 22 1 v' (ts.length + 1) (vals ts ++ [t.val])) (hg : w.grownBy w' v.ownBlock) :
    SO w' base v' (ts ++ [t]) := by
  refine ⟨?_, fun u hu => ?_⟩
  · have e : vals (ts ++ [t]) = vals ts ++ [t.val] := by simp [vals]
    rw [e, List.length_append]; exact ho
  · rcases List.mem_append.1 hu with hu | hu
    · exact (h.vs u hu).kept hg (own_ne_block (h.vs u hu) h.own (by decide))
    · rw [List.mem_singleton.1 hu]
      exact ht.kept hg (own_ne_block ht h.own (by decide))
theorem pick_ls (ts us : List Tg) (t : Int) (k : Nat) (h : k < ts.length) (h1 : us.map (·.l) = (pickT (ts.take k) t).map (·.l)) (h2 : ts[k].typ = t) (v : Value) : (us ++ [(⟨t, v, ts[k].l⟩ : Tg)]).map (·.l) = (pickT (ts.take (k + 1)) t).map (·.l) := by
  rw [pickT_snoc ts t k h, if_pos h2, List.map_append, List.map_append, h1]
  rfl
theorem drop_plain (ts us : List Tg) (t : Int) (k : Nat) (h : k < ts.length) (h1 : plain us = plain (dropT (ts.take k) t)) (h2 : ts[k].typ ≠ t) (v : Value) : plain (us ++ [(⟨ts[k].typ, v, ts[k].l⟩ : Tg)]) = plain (dropT (ts.take (k + 1)) t) := by
  rw [dropT_snoc ts t k h, if_neg h2, plain_append, plain_append, h1]
  rfl

set_option maxHeartbeats 1000000 in
theorem all_any (ao : Option Addr) (n c : Nat) (ts : List Tg) (t : Int) (w : World) (hr : TR w (.slice ao n c) n ts) (hn : n ≤ 1000) (hm : ∀ x ∈ ts, x.l.length ≤ 140737488351232) :
    Calls Try.prog 41 #[.slice ao n c, .int .i64 t] w fun e w' => ∃ v, e = .returned v ∧ (∃ us, SO w' w.heap.size v us ∧ us.map (·.l) = (pickT ts t).map (·.l)) ∧ Below w.heap.size w w' := by
  obtain ⟨i0, hi, hz0, hz1, hz2⟩ := info_parts infoS
  have hl := hr.len
  go_enter Try.func41, Try.ntmps41
  go_wp2
  go_loopw [5, 10] (fun ov iv wr => ∃ k : Nat, k ≤ n ∧ iv = .int .i64 k ∧ (∃ us, us.length ≤ k ∧ us.map (·.l) = (pickT (ts.take k) t).map (·.l) ∧ SO wr w.heap.size ov us) ∧ Below w.heap.size w wr) (fun _ iv _ => n - (intOf iv).toNat)
  case atStart => exact ⟨0, Nat.zero_le _, rfl, ⟨[], Nat.le_refl _, rfl, SO.nil _ _⟩, Below.refl _ _⟩
  case round =>
    obtain ⟨k, hk, rfl, ⟨us, hul, hus, hso⟩, hb⟩ := hrel
    by_cases hlt : k < n
    · obtain ⟨b, o, rfl, hbl, hc⟩ := (hr.below hb).cells (by omega)
      obtain ⟨hc0, hc1⟩ := hc k (by omega)
      have HV := Lib.hid (hr.val k (by omega))
      obtain ⟨A, L, C, hv, hL, hLC, hCm⟩ := HV.out.sl
      rw [hv] at hc1
      have HE := Lib.hid hv
      have HL := Lib.hid hL
      have HM := Lib.hid (hm ts[k] (List.getElem_mem _))
      obtain ⟨T, hT⟩ : ∃ T, T = ts[k].typ := ⟨_, rfl⟩
      rw [← hT] at hc0
      have HTT := Lib.hid hT
      have HU := Lib.hid hus
      have HSO := Lib.hid hso
      have HB := Lib.hid hb
      have HBN := Lib.hid (hb.size)
      have HB1 := Lib.hid (HB.out.trans (((Below.refl wr.heap.size wr).alloc (Nat.le_refl _) (.cells #[.int .i64 T, .slice A L C] 61)).mono HBN.out))
      have HSO1 := Lib.hid (HSO.out.below ((Below.refl wr.heap.size wr).alloc (Nat.le_refl _) (.cells #[.int .i64 T, .slice A L C] 61)))
      clear hv hL hT hc hb hm hus hso
      by_cases ht : T = t
      · subst ht
        have CL := Lib.hid (clone_any (wr.alloc (.cells #[.int .i64 T, .slice A L C] 61)) A L C ts[k].l HL.out (by
          have := (HV.out.below HB.out).below ((Below.refl _ _).alloc (Nat.le_refl _) (.cells #[.int .i64 T, .slice A L C] 61))
          rwa [HE.out] at this) (by have := HM.out; have := HL.out; omega))
        clear hr
        go_wp2_with fail
        refine CL.out.mono ?_
        rintro e w1 ⟨v1, rfl, hown1, hb1⟩
        obtain ⟨A1, L1, C1, ev, _, _⟩ := hown1.bs.sl
        subst ev
        have hbn := HBN.out
        have HO1 := Lib.hid (hown1.mono (base' := w.heap.size) (by simp; omega))
        have HB2 := Lib.hid (HB1.out.trans (hb1.mono (by simp; omega)))
        have HSO2 := Lib.hid (HSO1.out.below hb1)
        clear hown1 hb1
        have hs1 := HB2.out.size
        go_wp2_with (at_builtin; refine wpList_append_gr _ rfl (.tmp 18) (.tmp 22) 69 rfl w.heap.size 22 i0 _ 1 24 Try.underlying69 hi hz0 hz1 hz2 rfl (by decide) _ _ _ rfl (World.ownsRow.alloc HSO2.out.own _) _ 1 [.slice A1 L1 C1] rfl ?p2 ?p3 ?p4 (by decide) ?p5 ?_)
        case p2 => exact rd_new w1 [.slice A1 L1 C1] 22 1 1 rfl (by decide)
        case p3 => intro u hu; rw [List.mem_singleton.1 hu]; rfl
        case p4 => omega
        case p5 => simp; omega
        intro v' wo ho' hg'
        have hal : Below w1.heap.size w1 (w1.alloc (.cells #[.slice A1 L1 C1] 22)) := (Below.refl _ _).alloc (Nat.le_refl _) _
        have HSO3 := Lib.hid (SO.more (t := ⟨T, .slice A1 L1 C1, ts[k].l⟩) (HSO2.out.below hal) (HO1.out.below hal) ho' hg')
        have HB3 := Lib.hid (HB2.out.trans ((hal.mono hs1).trans (grown_below (World.ownsRow.alloc HSO2.out.own _) (by simp; omega) hg')))
        clear ho' hg' hal
        go_wp2
        go_roundw
        case rel =>
          have HU2 := pick_ls ts us T k (by omega) HU.out HTT.out.symm (.slice A1 L1 C1)
          have hl2 : (us ++ [(⟨T, .slice A1 L1 C1, ts[k].l⟩ : Tg)]).length ≤ k + 1 := by simp; omega
          first | exact ⟨k + 1, by omega, by go_num, ⟨_, hl2, HU2, HSO3.out⟩, HB3.out⟩ | ((repeat apply Exists.intro); exact ⟨⟨k + 1, by omega, by go_num, ⟨_, hl2, HU2, HSO3.out⟩, HB3.out⟩, rfl⟩)
        case measure => simp [intOf]; omega
      · have htf : (T == t) = false := by simpa using ht
        have HT := Lib.hid ht
        clear ht
        go_wp2
        go_roundw
        case rel =>
          have HU2 : us.map (·.l) = (pickT (ts.take (k + 1)) t).map (·.l) := by
            rw [pickT_snoc ts t k (by omega), if_neg (by rw [← HTT.out]; exact HT.out)]
            exact HU.out
          have hl2 : us.length ≤ k + 1 := by omega
          first | exact ⟨k + 1, by omega, by go_num, ⟨us, hl2, HU2, HSO1.out⟩, HB1.out⟩ | ((repeat apply Exists.intro); exact ⟨⟨k + 1, by omega, by go_num, ⟨us, hl2, HU2, HSO1.out⟩, HB1.out⟩, rfl⟩)
        case measure => simp [intOf]; omega
    · obtain rfl : k = n := by omega
      rw [List.take_of_length_le (by omega)] at hus
      have HB := Lib.hid hb
      have HU := Lib.hid hus
      have HSO := Lib.hid hso
      clear hb hus hso
      go_wp2
      go_ret
      exact ⟨_, rfl, ⟨us, HSO.out, HU.out⟩, HB.out⟩

end Go.Proofs.Ytcpeglljcipcbaa
