/-
  opts.Find, and the document's.
-/
import Derived.Test.YteemcckfhadkhaaOpA
import Derived.Test.YteemcckfhadkhaaTake
import Derived.Test.YteemcckfhadkhaaOnly
namespace Go.Proofs.Yteemcckfhadkhaa.O
open Go.RowKit
set_option linter.unusedVariables false
set_option linter.unusedSimpArgs false

/-- The first of a type. -/
def findT (ts : List Tg) (t : Int) : Option Tg := ts.find? fun x => decide (x.typ = t)
def findL (ts : List Tg) (t : Int) : List UInt8 := ((findT ts t).map (·.l)).getD []
def findK (ts : List Tg) (t : Int) : Int := if (findT ts t).isSome then t else 0
theorem findT_at (ts : List Tg) (t : Int) (k : Nat) (h : k < ts.length) (h1 : ∀ j (hj : j < k), (ts[j]'(by omega)).typ ≠ t) (h2 : ts[k].typ = t) : findT ts t = some ts[k] := by
  unfold findT
  rw [List.find?_eq_some_iff_getElem]
  refine ⟨by simpa using h2, k, h, rfl, fun j hj => by simpa using h1 j hj⟩
theorem findT_none (ts : List Tg) (t : Int) (h1 : ∀ j (hj : j < ts.length), ts[j].typ ≠ t) : findT ts t = none := by
  unfold findT
  rw [List.find?_eq_none]
  intro x hx
  obtain ⟨i, hi, rfl⟩ := List.mem_iff_getElem.1 hx
  simpa using h1 i hi
def FiR (ts : List Tg) (t : Int) (w : World) (e : Ending) (w' : World) : Prop :=
  ∃ v, e = .returned (.tuple #[.agg #[.int .i64 (findK ts t), v], .bool (findT ts t).isSome]) ∧ OwnB w' w.heap.size 5 v (findL ts t) ∧ Below w.heap.size w w'
/-- The document's hands the option on as it lies. -/
def FdR (ts : List Tg) (t : Int) (w : World) (e : Ending) (w' : World) : Prop :=
  ∃ v, e = .returned (.tuple #[.agg #[.int .i64 (findK ts t), v], .bool (findT ts t).isSome]) ∧ Bs w' v (findL ts t) ∧ Below w.heap.size w w'
theorem FiR.none {ts : List Tg} {t : Int} {w w' : World} (h : findT ts t = Option.none) (hb : Below w.heap.size w w') : FiR ts t w (.returned (.tuple #[.agg #[.int .i64 0, .slice Option.none 0 0], .bool false])) w' := by
  refine ⟨.slice Option.none 0 0, by unfold findK; rw [h]; rfl, ?_, hb⟩
  unfold findL; rw [h]; exact OwnB.nil _ _ _
theorem FdR.none {ts : List Tg} {t : Int} {w w' : World} (h : findT ts t = Option.none) (hb : Below w.heap.size w w') : FdR ts t w (.returned (.tuple #[.agg #[.int .i64 0, .slice Option.none 0 0], .bool false])) w' := by
  refine ⟨.slice Option.none 0 0, by unfold findK; rw [h]; rfl, ?_, hb⟩
  unfold findL; rw [h]; exact Bs.nil _
theorem FiR.some {ts : List Tg} {t : Int} {x : Tg} {v : Value} {w w' : World} (h : findT ts t = Option.some x) (ho : OwnB w' w.heap.size 5 v x.l) (hb : Below w.heap.size w w') : FiR ts t w (.returned (.tuple #[.agg #[.int .i64 t, v], .bool true])) w' := by
  refine ⟨v, by unfold findK; rw [h]; rfl, ?_, hb⟩
  unfold findL; rw [h]; exact ho
theorem FdR.some {ts : List Tg} {t : Int} {x : Tg} {v : Value} {w w' : World} (h : findT ts t = Option.some x) (ho : Bs w' v x.l) (hb : Below w.heap.size w w') : FdR ts t w (.returned (.tuple #[.agg #[.int .i64 t, v], .bool true])) w' := by
  refine ⟨v, by unfold findK; rw [h]; rfl, ?_, hb⟩
  unfold findL; rw [h]; exact ho

set_option maxRecDepth 20000 in
set_option maxHeartbeats 2000000 in
theorem find_any (ao : Option Addr) (n c : Nat) (ts : List Tg) (t : Int) (w : World) (hr : TR w (.slice ao n c) n ts) (hn : n ≤ 1000) (hm : ∀ x ∈ ts, x.l.length ≤ 140737488351232) :
    Calls Try.prog 23 #[.slice ao n c, .int .i64 t] w (FiR ts t w) := by
  have hl := hr.len
  have HR := Lib.hid hr
  have HB0 : Hid (Below w.heap.size w (w.alloc (.cells #[.int .i64 0, .slice none 0 0] 36))) := (Below.refl _ _).alloc (Nat.le_refl _) _
  have HG0 : Hid ((w.alloc (.cells #[.int .i64 0, .slice none 0 0] 36)).heap[w.heap.size]? = some (.cells #[.int .i64 0, .slice none 0 0] 36)) := heap_alloc_last _ _
  clear hr
  go_enter Try.func23, Try.ntmps23
  go_wp2
  go_loopw [10] (fun iv wr => ∃ k : Nat, k ≤ n ∧ iv = .int .i64 k ∧ (∀ j (hj : j < k) (h2 : j < ts.length), ts[j].typ ≠ t) ∧ Below w.heap.size w wr ∧ wr.heap[w.heap.size]? = some (.cells #[.int .i64 0, .slice none 0 0] 36)) (fun iv _ => n - (intOf iv).toNat)
  case atStart => exact ⟨0, Nat.zero_le _, rfl, fun j hj => by omega, HB0.out, HG0.out⟩
  case round =>
    clear HB0 HG0
    obtain ⟨k, hk, rfl, hne, hb, hg⟩ := hrel
    have HNE := Lib.hid hne
    have HB := Lib.hid hb
    have HG := Lib.hid hg
    have HBN := Lib.hid (hb.size)
    clear hne hb hg
    by_cases hlt : k < n
    · obtain ⟨b, o, rfl, hbl, hc⟩ := (HR.out.below HB.out).cells (by omega)
      obtain ⟨hc0, hc1⟩ := hc k (by omega)
      have HV := Lib.hid (HR.out.val k (by omega))
      obtain ⟨A, L, C, hv, hL, hLC, hCm⟩ := HV.out.sl
      rw [hv] at hc1
      have HE := Lib.hid hv
      have HL := Lib.hid hL
      have HM := Lib.hid (hm ts[k] (List.getElem_mem _))
      obtain ⟨T, hT⟩ : ∃ T, T = ts[k].typ := ⟨_, rfl⟩
      rw [← hT] at hc0
      have HTT := Lib.hid hT
      have HBA : Hid (Gr wr (wr.alloc (.cells #[.int .i64 T, .slice A L C] 36))) := (Gr.refl wr).alloc _
      have HB1 := Lib.hid (HB.out.trans (Below.mono HBA.out HBN.out))
      have HG1 := Lib.hid (heap_gr HBA.out HG.out)
      have HGC : Hid ((wr.alloc (.cells #[.int .i64 T, .slice A L C] 36)).heap[wr.heap.size]? = some (.cells #[.int .i64 T, .slice A L C] 36)) := heap_alloc_last _ _
      clear hv hL hT hc hm
      by_cases ht : T = t
      · subst ht
        have HF : Hid (findT ts T = some ts[k]) := findT_at ts T k (by omega) (fun j hj => HNE.out j hj (by omega)) HTT.out.symm
        obtain ⟨wq, hwq⟩ : ∃ wq, wq = wr.alloc (.cells #[.int .i64 T, .slice A L C] 36) := ⟨_, rfl⟩
        have CL : Hid (∀ w', Gr wq w' → Calls Try.prog 34 #[.slice A L C] w' fun e w3 => ∃ v, e = .returned v ∧ OwnB w3 w'.heap.size 5 v ts[k].l ∧ Below w'.heap.size w' w3) := fun w' hw' =>
          clone_any w' A L C _ HL.out (by
            have := HV.out.below (HB1.out.trans (Below.mono (hwq ▸ hw') HB1.out.size))
            rwa [HE.out] at this) (by have := HM.out; have := HL.out; omega)
        go_wp2_with fail
        rw [← hwq]
        rw [← hwq] at HB1 HG1 HGC
        obtain ⟨k0, k1⟩ := copy_cells HGC.out
        have HK0 := Lib.hid k0
        have HK1 := Lib.hid k1
        have hqs : w.heap.size ≤ wq.heap.size := HB1.out.size
        clear hwq k0 k1 hc0 hc1
        refine wp_region_G 6 Gr (by kernel_rfl) ?_
        -- 0: slot 18
        refine wpG_take preGr (i := 0) (v := ?_) (by kernel_rfl) (some 18) (by kernel_rfl) rfl (by kernel_rfl) (by kernel_rfl) (by kernel_rfl) (fun _ _ _ h => h) (by rfl) (fun w' hw' => ?_) rfl ?_
        rotate_left
        · try have g0 := cell_gr ((Gr.drew wq).trans hw') HK0.out
          try have g1 := cell_gr ((Gr.drew wq).trans hw') HK1.out
          go_simp
          with_reducible rfl
        simp only [Act.put, List.setIfInBounds_toArray, List.set_cons_zero, List.set_cons_succ]
        -- 1: slot 19
        refine wpG_take preGr (i := 1) (v := ?_) (by kernel_rfl) (some 19) (by kernel_rfl) rfl (by kernel_rfl) (by kernel_rfl) (by kernel_rfl) (fun _ _ _ h => h) (by rfl) (fun w' hw' => ?_) rfl ?_
        rotate_left
        · try have g0 := cell_gr ((Gr.drew wq).trans hw') HK0.out
          try have g1 := cell_gr ((Gr.drew wq).trans hw') HK1.out
          go_simp
          with_reducible rfl
        simp only [Act.put, List.setIfInBounds_toArray, List.set_cons_zero, List.set_cons_succ]
        -- 2: slot 20
        refine wpG_take preGr (i := 2) (v := ?_) (by kernel_rfl) (some 20) (by kernel_rfl) rfl (by kernel_rfl) (by kernel_rfl) (by kernel_rfl) (fun _ _ _ h => h) (by rfl) (fun w' hw' => ?_) rfl ?_
        rotate_left
        · try have g0 := cell_gr ((Gr.drew wq).trans hw') HK0.out
          try have g1 := cell_gr ((Gr.drew wq).trans hw') HK1.out
          go_simp
          with_reducible rfl
        simp only [Act.put, List.setIfInBounds_toArray, List.set_cons_zero, List.set_cons_succ]
        -- 3: slot 21
        refine wpG_take preGr (i := 3) (v := ?_) (by kernel_rfl) (some 21) (by kernel_rfl) rfl (by kernel_rfl) (by kernel_rfl) (by kernel_rfl) (fun _ _ _ h => h) (by rfl) (fun w' hw' => ?_) rfl ?_
        rotate_left
        · try have g0 := cell_gr ((Gr.drew wq).trans hw') HK0.out
          try have g1 := cell_gr ((Gr.drew wq).trans hw') HK1.out
          go_simp
          with_reducible rfl
        simp only [Act.put, List.setIfInBounds_toArray, List.set_cons_zero, List.set_cons_succ]
        refine wpG_one (i := 4) rfl (by kernel_rfl) (by rfl) ?_
        go_simp
        refine (CL.out _ (Gr.drew _)).mono ?_
        rintro e w3 ⟨v3, rfl, hown3, hb3⟩
        obtain ⟨A3, L3, C3, ev, hL3, _, _⟩ := hown3.bs.sl
        rw [HL.out] at hL3
        subst hL3
        subst ev
        refine ⟨hb3, ?_⟩
        have hq3 : Gr wq w3 := (Gr.drew wq).trans hb3
        have HB3 := Lib.hid (HB1.out.trans (Below.mono hq3 hqs))
        have HG3 := Lib.hid (heap_gr hq3 HG1.out)
        have HO3 := Lib.hid (hown3.mono (base' := w.heap.size) hqs)
        clear hown3 hb3 hq3
        try simp only [Act.put, List.setIfInBounds_toArray, List.set_cons_zero, List.set_cons_succ]
        -- 5: slot 23
        refine wpG_take preGr (i := 5) (v := ?_) (by kernel_rfl) (some 23) (by kernel_rfl) rfl (by kernel_rfl) (by kernel_rfl) (by kernel_rfl) (fun _ _ _ h => h) (by rfl) (fun w' hw' => ?_) rfl ?_
        rotate_left
        · refine Eq.trans (build_run (P := Try.prog) 36 [(0, .tmp 19), (1, .tmp 22)] ?_ #[.int .i64 T, .slice A3 L C3] ?_) ?_
          · rfl
          · exact builtT T A3 L C3
          · with_reducible rfl
        simp only [Act.put, List.setIfInBounds_toArray, List.set_cons_zero, List.set_cons_succ]
        refine wpG_tail (i := 6) (by decide) rfl (by kernel_rfl) (by rfl) ?_
        refine wp_store_whole (none) 36 (.tmp 4) (.tmp 23) rfl w.heap.size [.int .i64 T, .slice A3 L C3] rfl rfl 36 [.int .i64 0, .slice none 0 0] HG3.out sizeT rfl (one_tag _ rfl) rfl ?_
        intro w4 h4 ho4
        have H4 := Lib.hid h4
        have HB4 : Hid (Below w.heap.size w w4) := ho4.below _ _ (Nat.le_refl _) HB3.out
        have HO4 := Lib.hid (HO3.out.off ho4 (fun q hq e => own_ne_cell HO3.out HG3.out (by decide) (by rw [hq, e])))
        clear h4 ho4
        try simp only [Act.put, List.setIfInBounds_toArray, List.set_cons_zero, List.set_cons_succ]
        refine wpG_tail (i := 7) (by decide) rfl (by kernel_rfl) (by rfl) ?_
        go_simp
        try simp only [Act.put, List.setIfInBounds_toArray, List.set_cons_zero, List.set_cons_succ]
        refine wpG_done (by kernel_rfl) ?_ _
        go_wp2
        refine bodyPost_ret (v := .tuple #[.agg #[.int .i64 T, .slice A3 L C3], .bool true]) (results_cell_tmp_row (P := Try.prog) (fn := Try.f23) rfl _ _ w.heap.size 36 _ (0, 0) _ rfl H4.out Try.underlying36 rfl (by kernel_rfl)) rfl ?_
        exact FiR.some HF.out HO4.out HB4.out
      · have htf : (T == t) = false := by simpa using ht
        have HT := Lib.hid ht
        clear ht
        go_wp2
        go_roundw
        case rel =>
          have HN1 : ∀ j (hj : j < k + 1) (h2 : j < ts.length), ts[j].typ ≠ t := fun j hj h2 => by
            by_cases e : j = k
            · subst e; rw [← HTT.out]; exact HT.out
            · exact HNE.out j (by omega) h2
          first | exact ⟨k + 1, by omega, by go_num, HN1, HB1.out, HG1.out⟩ | ((repeat apply Exists.intro); exact ⟨⟨k + 1, by omega, by go_num, HN1, HB1.out, HG1.out⟩, rfl⟩)
        case measure => simp [intOf]; omega
    · obtain rfl : k = n := by omega
      have HF := Lib.hid (findT_none ts t fun j hj => HNE.out j (by omega) hj)
      go_wp2_with (refine wpList_store_whole rfl 36 (.tmp 4) (.tmp 25) rfl w.heap.size [.int .i64 0, .slice none 0 0] rfl rfl 36 [.int .i64 0, .slice none 0 0] HG.out sizeT rfl (one_tag 0 rfl) ?_)
      intro w3 h3 ho3
      have H3 := Lib.hid h3
      have HB3 : Hid (Below w.heap.size w w3) := ho3.below _ _ (Nat.le_refl _) HB.out
      clear h3 ho3
      go_wp2
      refine bodyPost_ret (v := .tuple #[.agg #[.int .i64 0, .slice none 0 0], .bool false]) (results_cell_tmp_row (P := Try.prog) (fn := Try.f23) rfl _ _ w.heap.size 36 _ (0, 0) _ rfl H3.out Try.underlying36 rfl (by kernel_rfl)) rfl ?_
      exact FiR.none HF.out HB3.out

set_option maxRecDepth 20000 in
set_option maxHeartbeats 2000000 in
theorem rfind_any (ao : Option Addr) (n c : Nat) (ts : List Tg) (t : Int) (w : World) (hr : TR w (.slice ao n c) n ts) (hn : n ≤ 1000) :
    Calls Try.prog 24 #[.slice ao n c, .int .i64 t] w (FdR ts t w) := by
  have hl := hr.len
  have HR := Lib.hid hr
  have HB0 : Hid (Below w.heap.size w (w.alloc (.cells #[.int .i64 0, .slice none 0 0] 36))) := (Below.refl _ _).alloc (Nat.le_refl _) _
  have HG0 : Hid ((w.alloc (.cells #[.int .i64 0, .slice none 0 0] 36)).heap[w.heap.size]? = some (.cells #[.int .i64 0, .slice none 0 0] 36)) := heap_alloc_last _ _
  clear hr
  go_enter Try.func24, Try.ntmps24
  go_wp2
  go_loopw [6] (fun iv wr => ∃ k : Nat, k ≤ n ∧ iv = .int .i64 k ∧ (∀ j (hj : j < k) (h2 : j < ts.length), ts[j].typ ≠ t) ∧ Below w.heap.size w wr ∧ wr.heap[w.heap.size]? = some (.cells #[.int .i64 0, .slice none 0 0] 36)) (fun iv _ => n - (intOf iv).toNat)
  case atStart => exact ⟨0, Nat.zero_le _, rfl, fun j hj => by omega, HB0.out, HG0.out⟩
  case round =>
    clear HB0 HG0
    obtain ⟨k, hk, rfl, hne, hb, hg⟩ := hrel
    have HNE := Lib.hid hne
    have HB := Lib.hid hb
    have HG := Lib.hid hg
    have HBN := Lib.hid (hb.size)
    clear hne hb hg
    by_cases hlt : k < n
    · obtain ⟨b, o, rfl, hbl, hc⟩ := (HR.out.below HB.out).cells (by omega)
      obtain ⟨hc0, hc1⟩ := hc k (by omega)
      have HV := Lib.hid (HR.out.val k (by omega))
      obtain ⟨A, L, C, hv, hL, hLC, hCm⟩ := HV.out.sl
      rw [hv] at hc1
      have HE := Lib.hid hv
      obtain ⟨T, hT⟩ : ∃ T, T = ts[k].typ := ⟨_, rfl⟩
      rw [← hT] at hc0
      have HTT := Lib.hid hT
      have HRA : Hid (wr.rangeAt b (o + k * 2) [.int .i64 T, .slice A L C]) := by
        intro j u hj
        match j, hj with
        | 0, hj => obtain rfl := Option.some.inj hj; exact hc0
        | 1, hj => obtain rfl := Option.some.inj hj; exact hc1
      clear hv hL hT hc
      by_cases ht : T = t
      · subst ht
        have HF : Hid (findT ts T = some ts[k]) := findT_at ts T k (by omega) (fun j hj => HNE.out j hj (by omega)) HTT.out.symm
        go_wp2_with (first | (with_reducible refine wpList_load_mid rfl 36 (.tmp 22) rfl b (o + k * 2) rfl [.int .i64 T, .slice A L C] _ HRA.out Try.underlying36 rfl sizeT ?_) | (refine wpList_store_whole rfl 36 (.tmp 4) (.tmp 23) rfl w.heap.size [.int .i64 T, .slice A L C] rfl rfl 36 [.int .i64 0, .slice none 0 0] HG.out sizeT rfl (one_tag T rfl) ?_))
        intro w3 h3 ho3
        have H3 := Lib.hid h3
        have HB3 : Hid (Below w.heap.size w w3) := ho3.below _ _ (Nat.le_refl _) HB.out
        have HV3 : Hid (Bs w3 (.slice A L C) ts[k].l) := by have := HV.out.below HB3.out; rwa [HE.out] at this
        clear h3 ho3
        go_wp2
        refine bodyPost_ret (v := .tuple #[.agg #[.int .i64 T, .slice A L C], .bool true]) (results_cell_tmp_row (P := Try.prog) (fn := Try.f24) rfl _ _ w.heap.size 36 _ (0, 0) _ rfl H3.out Try.underlying36 rfl (by kernel_rfl)) rfl ?_
        exact FdR.some HF.out HV3.out HB3.out
      · have htf : (T == t) = false := by simpa using ht
        have HT := Lib.hid ht
        clear ht
        go_wp2
        go_roundw
        case rel =>
          have HN1 : ∀ j (hj : j < k + 1) (h2 : j < ts.length), ts[j].typ ≠ t := fun j hj h2 => by
            by_cases e : j = k
            · subst e; rw [← HTT.out]; exact HT.out
            · exact HNE.out j (by omega) h2
          first | exact ⟨k + 1, by omega, by go_num, HN1, HB.out, HG.out⟩ | ((repeat apply Exists.intro); exact ⟨⟨k + 1, by omega, by go_num, HN1, HB.out, HG.out⟩, rfl⟩)
        case measure => simp [intOf]; omega
    · obtain rfl : k = n := by omega
      have HF := Lib.hid (findT_none ts t fun j hj => HNE.out j (by omega) hj)
      go_wp2_with (refine wpList_store_whole rfl 36 (.tmp 4) (.tmp 24) rfl w.heap.size [.int .i64 0, .slice none 0 0] rfl rfl 36 [.int .i64 0, .slice none 0 0] HG.out sizeT rfl (one_tag 0 rfl) ?_)
      intro w3 h3 ho3
      have H3 := Lib.hid h3
      have HB3 : Hid (Below w.heap.size w w3) := ho3.below _ _ (Nat.le_refl _) HB.out
      clear h3 ho3
      go_wp2
      refine bodyPost_ret (v := .tuple #[.agg #[.int .i64 0, .slice none 0 0], .bool false]) (results_cell_tmp_row (P := Try.prog) (fn := Try.f24) rfl _ _ w.heap.size 36 _ (0, 0) _ rfl H3.out Try.underlying36 rfl (by kernel_rfl)) rfl ?_
      exact FdR.none HF.out HB3.out
end Go.Proofs.Yteemcckfhadkhaa.O
