/-
  Options walked by a closure (nego.walk), over a variable function.
-/
import Derived.Test.YtbldcjngccmhpaaNgD
namespace Go.Proofs.Ytbldcjngccmhpaa.Ng
open Go.RowKit
set_option linter.unusedVariables false
set_option linter.unusedSimpArgs false
/-- Nothing that was there has turned; or nothing but one block. -/
def OB (o : Option Nat) (w w' : World) : Prop := match o with
  | none => Below w.heap.size w w'
  | some g => Only g w w'
theorem OB.refl (o : Option Nat) (w : World) : OB o w w := by cases o with
  | none => exact Below.refl _ _
  | some g => exact Only.refl _ _
theorem OB.size {o : Option Nat} {w w' : World} (h : OB o w w') : w.heap.size ≤ w'.heap.size := by cases o with
  | none => exact Below.size h
  | some g => exact Only.size h
theorem OB.trans {o : Option Nat} {a b c : World} (h : OB o a b) (k : OB o b c) : OB o a c := by cases o with
  | none => exact Below.trans h (Below.mono k (Below.size h))
  | some g => exact Only.trans h k
theorem OB.after {o : Option Nat} {a b c : World} (h : OB o a b) (ho : ∀ g, o = some g → g < a.heap.size) (k : Below a.heap.size b c) : OB o a c := by cases o with
  | none => exact Below.trans h k
  | some g =>
    have hg := ho g rfl
    exact ⟨Nat.le_trans (Only.size h) k.size, fun B w0 hB hb => ((Only.below h) B w0 hB hb).trans (k.mono (by omega)), fun i hi hn => by rw [k.block i hi, Only.heap h i hi hn]⟩
theorem OB.below {o : Option Nat} {w0 w w' : World} (h : OB o w w') (hg : ∀ g, o = some g → w0.heap.size ≤ g) (hb : Below w0.heap.size w0 w) : Below w0.heap.size w0 w' := by cases o with
  | none => exact hb.trans (Below.mono h hb.size)
  | some g => exact Only.below h _ _ (hg g rfl) hb
theorem OB.own {o : Option Nat} {w w' : World} {base : Nat} {e : TypeId} {size n : Nat} {v : Value} {xs : List Value} (h : OB o w w') (hg : ∀ g, o = some g → g < base) (hr : w.ownsRow base e size v n xs) : w'.ownsRow base e size v n xs := by cases o with
  | none => exact ownsRow_below hr h
  | some g => exact ownsRow_only hr h (hg g rfl)
theorem OB.to {o : Option Nat} {w w' : World} {base : Nat} {v : Value} {ts : List O.Tg} (h : OB o w w') (hg : ∀ g, o = some g → g < base) (hr : O.TO w base v ts) : O.TO w' base v ts :=
  ⟨h.own hg hr.own, fun t ht => h.own hg (hr.vals t ht)⟩
theorem OB.heap {o : Option Nat} {w w' : World} {k : Nat} {x : Obj} (h : OB o w w') (hk : o ≠ some k) (hx : w.heap[k]? = some x) : w'.heap[k]? = some x := by cases o with
  | none => exact heap_below hx h
  | some g => rw [Only.heap h k (Array.getElem?_eq_some_iff.1 hx).1 (fun e => hk (by rw [e]))]; exact hx
/-- What the closure tells of one option: what stays, if it stays. -/
def Tells (out : Option PT) (w' : World) (e : Ending) : Prop :=
  ∃ (U : Int) (A : Option Addr) (L C : Nat) (b : Bool) (l : List UInt8), e = .returned (.tuple #[.agg #[.int .i64 U, .slice A L C], .bool b]) ∧ out = (if b then some (U, l) else none) ∧ (b = true → l.length = L ∧ L ≤ 1000 ∧ Bs w' (.slice A L C) l)
/-- What stays of the first k. -/
def outs (out : Nat → Option PT) (k : Nat) : List PT := (List.range k).filterMap out
theorem outs_succ (out : Nat → Option PT) (k : Nat) : outs out (k + 1) = outs out k ++ (out k).toList := by
  unfold outs
  rw [List.range_succ, List.filterMap_append]
  cases h : out k <;> simp [h]
theorem outs_zero (out : Nat → Option PT) : outs out 0 = [] := rfl
theorem outs_length (out : Nat → Option PT) (k : Nat) : (outs out k).length ≤ k := by
  unfold outs
  exact Nat.le_trans (List.length_filterMap_le _ _) (by simp)
open O in
set_option maxRecDepth 20000 in
set_option maxHeartbeats 4000000 in
theorem walk_any (w0 w : World) (o : Option Nat) (hg0 : ∀ g, o = some g → w0.heap.size ≤ g) (hg1 : ∀ g, o = some g → g < w.heap.size) (hb0 : Below w0.heap.size w0 w)
    (ao : Option Addr) (n c : Nat) (ts : List Tg) (hr : TR w0 (.slice ao n c) n ts) (hn : n ≤ 1000)
    (k : Nat) (caps : Array Value) (hk : ∀ (args : Array Value) (w' : World), (callFunc k args).run Try.prog w' = .ok (.enter k args) w')
    (I : Nat → World → Prop) (hI : ∀ j w1 w2, I j w1 → Below w.heap.size w1 w2 → I j w2) (h0 : I 0 w) (out : Nat → Option PT)
    (HS : ∀ j (hj : j < ts.length) (T : Int) (A : Option Addr) (L C : Nat) (wr : World), T = ts[j].typ → ts[j].val = .slice A L C → Bs wr (.slice A L C) ts[j].l → Below w0.heap.size w0 wr → w.heap.size ≤ wr.heap.size → I j wr →
      Calls Try.prog k (#[.agg #[.int .i64 T, .slice A L C]] ++ caps) wr fun e w' => Tells (out j) w' e ∧ OB o wr w' ∧ I (j + 1) w') :
    Calls Try.prog 39 #[.slice ao n c, .func (.func k) #[] caps] w fun e w' => ∃ v us, e = .returned v ∧ plain us = outs out n ∧ TO w' w.heap.size v us ∧ OB o w w' ∧ I n w' := by
  obtain ⟨i0, hi, hz0, hz1, hz2⟩ := info_parts infoT
  have hl := hr.len
  have HR := Lib.hid hr
  have HG0 := Lib.hid hg0
  have HG1 := Lib.hid hg1
  have HB0 := Lib.hid hb0
  have HI := Lib.hid hI
  have H0 := Lib.hid h0
  have HSS := Lib.hid HS
  clear hr hg0 hg1 hb0 hI h0 HS
  go_enter Try.func39, Try.ntmps39
  go_wp2
  go_loopw [5, 12] (fun ov iv wr => ∃ (j : Nat) (us : List Tg) (lv : Value), j ≤ n ∧ iv = .int .i64 j ∧ lv = ov ∧ plain us = outs out j ∧ TO wr w.heap.size lv us ∧ OB o w wr ∧ I j wr) (fun _ iv _ => n - (intOf iv).toNat)
  case atStart => exact ⟨0, [], _, Nat.zero_le _, rfl, rfl, rfl, TO.nil _ _, OB.refl _ _, H0.out⟩
  case round =>
    obtain ⟨j, us, lv, hj, rfl, rfl, hus, hto, hob, hij⟩ := hrel
    have HUS := Lib.hid hus
    have HTO := Lib.hid hto
    have HOB := Lib.hid hob
    have HIJ := Lib.hid hij
    have HB := Lib.hid (hob.below HG0.out HB0.out)
    have HBN := Lib.hid hob.size
    clear hus hto hob hij
    by_cases hlt : j < n
    · obtain ⟨b, off, rfl, hbl, hc⟩ := (HR.out.below HB.out).cells (by omega)
      obtain ⟨hc0, hc1⟩ := hc j (by omega)
      have HV := Lib.hid (HR.out.val j (by omega))
      obtain ⟨A, L, C, hv, hL, hLC, hCm⟩ := HV.out.sl
      rw [hv] at hc1
      have HE := Lib.hid hv
      obtain ⟨T, hT⟩ : ∃ T, T = ts[j].typ := ⟨_, rfl⟩
      rw [← hT] at hc0
      have HTT := Lib.hid hT
      have HBA : Hid (Gr wr (wr.alloc (.cells #[.int .i64 T, .slice A L C] 42))) := (Gr.refl wr).alloc _
      have HBS : Hid (Bs w0 (.slice A L C) ts[j].l) := by show Bs _ _ _; rw [← hv]; exact HV.out
      have CA := Lib.hid (HSS.out j (by omega) T A L C (wr.alloc (.cells #[.int .i64 T, .slice A L C] 42)) HTT.out HE.out (HBS.out.below (HB.out.trans (Below.mono HBA.out HB.out.size))) (HB.out.trans (Below.mono HBA.out HB.out.size)) (Nat.le_trans HBN.out HBA.out.size) (HI.out _ _ _ HIJ.out (Below.mono HBA.out HBN.out)))
      have HOB1 : Hid (OB o w (wr.alloc (.cells #[.int .i64 T, .slice A L C] 42))) := HOB.out.after HG1.out (Below.mono HBA.out HBN.out)
      have HTO1 : Hid (TO (wr.alloc (.cells #[.int .i64 T, .slice A L C] 42)) w.heap.size lv us) := HTO.out.below HBA.out
      clear hv hL hT hc hLC hCm
      go_wp2_with fail
      refine CA.out.mono ?_
      rintro e w2 ⟨⟨U, A2, L2, C2, q, l, rfl, hout, hq⟩, hob2, hi2⟩
      have HOB2 := Lib.hid (HOB1.out.trans hob2)
      have HTO2 := Lib.hid (hob2.to HG1.out HTO1.out)
      have HI2 := Lib.hid hi2
      have HOUT := Lib.hid hout
      have HQ := Lib.hid hq
      have HBC : Hid (Gr w2 (w2.alloc (.cells #[.int .i64 U, .slice A2 L2 C2] 42))) := (Gr.refl w2).alloc _
      have HBN2 := Lib.hid HOB2.out.size
      have HGC : Hid ((w2.alloc (.cells #[.int .i64 U, .slice A2 L2 C2] 42)).heap[w2.heap.size]? = some (.cells #[.int .i64 U, .slice A2 L2 C2] 42)) := heap_alloc_last _ _
      have HOB3 : Hid (OB o w (w2.alloc (.cells #[.int .i64 U, .slice A2 L2 C2] 42))) := HOB2.out.after HG1.out (Below.mono HBC.out HBN2.out)
      have HTO3 : Hid (TO (w2.alloc (.cells #[.int .i64 U, .slice A2 L2 C2] 42)) w.heap.size lv us) := HTO2.out.below HBC.out
      have HI3 := Lib.hid (HI.out _ _ _ HI2.out (Below.mono HBC.out HBN2.out))
      clear hob2 hi2 hout hq hc0 hc1 CA
      cases q with
      | false =>
        go_wp2
        go_roundw
        case rel =>
          have HU : plain us = outs out (j + 1) := by rw [outs_succ, HOUT.out, HUS.out]; simp
          first | exact ⟨j + 1, us, _, by omega, by go_num, rfl, HU, HTO3.out, HOB3.out, HI3.out⟩ | ((repeat apply Exists.intro); exact ⟨⟨j + 1, us, _, by omega, by go_num, rfl, HU, HTO3.out, HOB3.out, HI3.out⟩, rfl⟩)
        case measure => simp [intOf]; omega
      | true =>
        obtain ⟨hl2, hL2, hbs⟩ := HQ.out rfl
        have CL : Hid (∀ w', Gr (w2.alloc (.cells #[.int .i64 U, .slice A2 L2 C2] 42)) w' → Calls Try.prog 57 #[.slice A2 L2 C2] w' fun e w3 => ∃ v, e = .returned v ∧ OwnB w3 w'.heap.size 5 v l ∧ Below w'.heap.size w' w3) := fun w' hw' =>
          clone_any w' A2 L2 C2 l hl2 (hbs.below (HBC.out.trans hw')) (by omega)
        clear hl2 hL2 hbs
        go_upto_region 7 with fail
        obtain ⟨wq, hwq⟩ : ∃ wq, wq = w2.alloc (.cells #[.int .i64 U, .slice A2 L2 C2] 42) := ⟨_, rfl⟩
        rw [← hwq]
        rw [← hwq] at HGC HOB3 HTO3 HI3 CL
        have HQN := Lib.hid HOB3.out.size
        clear hwq
        have hus : us.length ≤ 1000 := by
          have h1 := outs_length out j
          rw [← HUS.out, plain_length] at h1
          omega
        refine wp_region_G 8 Gr (by kernel_rfl) ?_
        -- 0: slot 23
        refine wpG_take preGr (i := 0) (v := ?_) (by kernel_rfl) (some 23) (by kernel_rfl) rfl (by kernel_rfl) (by kernel_rfl) (by kernel_rfl) (fun _ _ _ h => h) (by rfl) (fun w' hw' => ?_) rfl ?_
        rotate_left
        · try have g0 := (copy_cells (heap_gr ((Gr.drew wq).trans hw') HGC.out)).1
          try have g1 := (copy_cells (heap_gr ((Gr.drew wq).trans hw') HGC.out)).2
          go_simp
          with_reducible rfl
        simp only [Act.put, List.setIfInBounds_toArray, List.set_cons_zero, List.set_cons_succ]
        -- 1: slot 24
        refine wpG_take preGr (i := 1) (v := ?_) (by kernel_rfl) (some 24) (by kernel_rfl) rfl (by kernel_rfl) (by kernel_rfl) (by kernel_rfl) (fun _ _ _ h => h) (by rfl) (fun w' hw' => ?_) rfl ?_
        rotate_left
        · try have g0 := (copy_cells (heap_gr ((Gr.drew wq).trans hw') HGC.out)).1
          try have g1 := (copy_cells (heap_gr ((Gr.drew wq).trans hw') HGC.out)).2
          go_simp
          with_reducible rfl
        simp only [Act.put, List.setIfInBounds_toArray, List.set_cons_zero, List.set_cons_succ]
        -- 2: slot 25
        refine wpG_take preGr (i := 2) (v := ?_) (by kernel_rfl) (some 25) (by kernel_rfl) rfl (by kernel_rfl) (by kernel_rfl) (by kernel_rfl) (fun _ _ _ h => h) (by rfl) (fun w' hw' => ?_) rfl ?_
        rotate_left
        · try have g0 := (copy_cells (heap_gr ((Gr.drew wq).trans hw') HGC.out)).1
          try have g1 := (copy_cells (heap_gr ((Gr.drew wq).trans hw') HGC.out)).2
          go_simp
          with_reducible rfl
        simp only [Act.put, List.setIfInBounds_toArray, List.set_cons_zero, List.set_cons_succ]
        -- 3: slot 26
        refine wpG_take preGr (i := 3) (v := ?_) (by kernel_rfl) (some 26) (by kernel_rfl) rfl (by kernel_rfl) (by kernel_rfl) (by kernel_rfl) (fun _ _ _ h => h) (by rfl) (fun w' hw' => ?_) rfl ?_
        rotate_left
        · try have g0 := (copy_cells (heap_gr ((Gr.drew wq).trans hw') HGC.out)).1
          try have g1 := (copy_cells (heap_gr ((Gr.drew wq).trans hw') HGC.out)).2
          go_simp
          with_reducible rfl
        simp only [Act.put, List.setIfInBounds_toArray, List.set_cons_zero, List.set_cons_succ]
        -- 4: slot 27
        refine wpG_take preGr (i := 4) (v := ?_) (by kernel_rfl) (some 27) (by kernel_rfl) rfl (by kernel_rfl) (by kernel_rfl) (by kernel_rfl) (fun _ _ _ h => h) (by rfl) (fun w' hw' => ?_) rfl ?_
        rotate_left
        · try have g0 := (copy_cells (heap_gr ((Gr.drew wq).trans hw') HGC.out)).1
          try have g1 := (copy_cells (heap_gr ((Gr.drew wq).trans hw') HGC.out)).2
          go_simp
          with_reducible rfl
        simp only [Act.put, List.setIfInBounds_toArray, List.set_cons_zero, List.set_cons_succ]
        refine wpG_one (i := 5) rfl (by kernel_rfl) (by rfl) ?_
        go_simp
        refine (CL.out _ (Gr.drew _)).mono ?_
        rintro e w3 ⟨v3, rfl, hown3, hb3⟩
        obtain ⟨A3, L3, C3, ev, hL3, _, _⟩ := hown3.bs.sl
        subst ev
        refine ⟨hb3, ?_⟩
        have hq3 : Gr wq w3 := (Gr.drew wq).trans hb3
        have HOB4 : Hid (OB o w w3) := HOB3.out.after HG1.out (Below.mono hq3 HQN.out)
        have HTO4 : Hid (TO w3 w.heap.size lv us) := HTO3.out.below hq3
        have HI4 := Lib.hid (HI.out _ _ _ HI3.out (Below.mono hq3 HQN.out))
        have HO4 := Lib.hid (hown3.mono (base' := w.heap.size) HQN.out)
        have HN4 := Lib.hid HOB4.out.size
        clear hown3 hb3 hq3 hL3
        try simp only [Act.put, List.setIfInBounds_toArray, List.set_cons_zero, List.set_cons_succ]
        -- 6: slot 29
        refine wpG_take preGr (i := 6) (v := ?_) (by kernel_rfl) (some 29) (by kernel_rfl) rfl (by kernel_rfl) (by kernel_rfl) (by kernel_rfl) (fun _ _ _ h => h) (by rfl) (fun w' hw' => ?_) rfl ?_
        rotate_left
        · refine Eq.trans (build_run (P := Try.prog) 42 [(0, .tmp 25), (1, .tmp 28)] ?_ #[.int .i64 U, .slice A3 L3 C3] ?_) ?_
          · rfl
          · exact builtT U A3 L3 C3
          · with_reducible rfl
        simp only [Act.put, List.setIfInBounds_toArray, List.set_cons_zero, List.set_cons_succ]
        refine wpG_one (i := 7) rfl (by kernel_rfl) (by rfl) ?_
        go_simp
        refine ⟨(Gr.refl _).alloc _, ?_⟩
        have hal : Gr w3 (w3.alloc (.cells #[.int .i64 U, .slice A3 L3 C3] 42)) := (Gr.refl _).alloc _
        have HOB5 : Hid (OB o w (w3.alloc (.cells #[.int .i64 U, .slice A3 L3 C3] 42))) := HOB4.out.after HG1.out (Below.mono hal HN4.out)
        have HTO5 : Hid (TO (w3.alloc (.cells #[.int .i64 U, .slice A3 L3 C3] 42)) w.heap.size lv us) := HTO4.out.below hal
        have HI5 := Lib.hid (HI.out _ _ _ HI4.out (Below.mono hal HN4.out))
        have HO5 := Lib.hid (HO4.out.below hal)
        have HN5 := Lib.hid HOB5.out.size
        have HRD := Lib.hid (rd_new w3 [.int .i64 U, .slice A3 L3 C3] 42 1 2 rfl (by decide))
        clear hal
        try simp only [Act.put, List.setIfInBounds_toArray, List.set_cons_zero, List.set_cons_succ]
        refine wpG_tail (i := 8) (by decide) rfl (by kernel_rfl) (by rfl) ?_
        refine wp_append_gr _ (some 31) (.tmp 23) (.tmp 30) 23 rfl w.heap.size 42 i0 _ 2 32 Try.underlying23 hi hz0 hz1 hz2 rfl (by decide) _ _ _ rfl HTO5.out.own _ 1 _ rfl HRD.out (one_tag U rfl) (by omega) (by decide) HN5.out rfl ?_
        intro v' wo ho' hg'
        have HTO6 : Hid (TO wo w.heap.size v' (us ++ [⟨U, .slice A3 L3 C3, l⟩])) := HTO5.out.more HO5.out ho' hg'
        have hgb := grown_below HTO5.out.own HN5.out hg'
        have HOB6 := Lib.hid (HOB5.out.after HG1.out hgb)
        have HI6 := Lib.hid (HI.out _ _ _ HI5.out hgb)
        clear ho' hg' hgb
        try simp only [Act.put, List.setIfInBounds_toArray, List.set_cons_zero, List.set_cons_succ]
        refine wpG_tail (i := 9) (by decide) rfl (by kernel_rfl) (by rfl) ?_
        go_simp
        try simp only [Act.put, List.setIfInBounds_toArray, List.set_cons_zero, List.set_cons_succ]
        refine wpG_done (by kernel_rfl) ?_ _
        go_wp2
        go_roundw
        case rel =>
          have HU : plain (us ++ [(⟨U, .slice A3 L3 C3, l⟩ : Tg)]) = outs out (j + 1) := by rw [outs_succ, HOUT.out, plain_append, HUS.out]; rfl
          first | exact ⟨j + 1, _, _, by omega, by go_num, rfl, HU, HTO6.out, HOB6.out, HI6.out⟩ | ((repeat apply Exists.intro); exact ⟨⟨j + 1, _, _, by omega, by go_num, rfl, HU, HTO6.out, HOB6.out, HI6.out⟩, rfl⟩)
        case measure => simp [intOf]; omega
    · obtain rfl : j = n := by omega
      obtain ⟨a', c', ev, _, _⟩ := HTO.out.tr.shape
      subst ev
      go_wp2
      go_ret
      exact ⟨_, us, rfl, HUS.out, HTO.out, HOB.out, HIJ.out⟩
end Go.Proofs.Ytbldcjngccmhpaa.Ng
