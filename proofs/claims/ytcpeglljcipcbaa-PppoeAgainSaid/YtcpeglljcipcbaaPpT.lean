/-
  A region of which three moves may come first; the laws' told.
-/
import Derived.Test.YtcpeglljcipcbaaPpR
import Derived.Test.YtcpeglljcipcbaaTagJ
import Derived.Test.YtcpeglljcipcbaaTagB
namespace Go.Proofs.Ytcpeglljcipcbaa
open Go.RowKit
set_option linter.unusedVariables false
set_option linter.unusedSimpArgs false
section
variable {P : Program} {ops : Array Oper} {Q : Exit → Act → World → Prop} {md : Region.Mode} {G : World → World → Prop} {n : Nat}
theorem wpG_three {i j k : Nat} {oi oj ok : Oper} {fuel : Nat} {listed : Array Bool} {a : Act} {w : World} (hi : ops[i]? = some oi) (hj : ops[j]? = some oj) (hk : ops[k]? = some ok)
    (hr : Region.ready md ops listed = [i, j, k]) (hw : Region.wanted oi (yielded ops a.tmps) = true) (hw2 : Region.wanted oj (yielded ops a.tmps) = true) (hw3 : Region.wanted ok (yielded ops a.tmps) = true)
    (h : oi.wp P a w (fun a' w' => G w w' ∧ wpG P md ops n G Q fuel (listed.setIfInBounds i true) a' w') Q)
    (h2 : oj.wp P a w (fun a' w' => G w w' ∧ wpG P md ops n G Q fuel (listed.setIfInBounds j true) a' w') Q)
    (h3 : ok.wp P a w (fun a' w' => G w w' ∧ wpG P md ops n G Q fuel (listed.setIfInBounds k true) a' w') Q) : wpG P md ops n G Q (fuel + 1) listed a w := by
  refine ⟨(fun h0 => by rw [hr] at h0; cases h0), fun q hq => ?_⟩
  rw [hr] at hq
  simp only [List.mem_cons, List.not_mem_nil, or_false] at hq
  rcases hq with rfl | rfl | rfl
  · unfold wpOp
    simp only [hi]
    rw [if_pos hw]
    exact .inl (Oper.wp_mono (fun a' w' h' => ⟨fun _ => h'.1, h'.2⟩) h)
  · unfold wpOp
    simp only [hj]
    rw [if_pos hw2]
    exact .inl (Oper.wp_mono (fun a' w' h' => ⟨fun _ => h'.1, h'.2⟩) h2)
  · unfold wpOp
    simp only [hk]
    rw [if_pos hw3]
    exact .inl (Oper.wp_mono (fun a' w' h' => ⟨fun _ => h'.1, h'.2⟩) h3)
end
/-- One value, in memory. -/
def One (w : World) (v : Value) (x : List UInt8) : Prop := ∃ b o c A L C, v = .slice (some ⟨b, o, none⟩) 1 c ∧ b < w.heap.size ∧ w.cell? ⟨b, o, none⟩ = some (.slice A L C) ∧ Bs w (.slice A L C) x
theorem pick_one {w : World} {base n c : Nat} {v : Value} {a : Option Addr} {ts : List Tg} {t : Int} {x : List UInt8} (h : w.ownsRow base 22 1 v (pickT ts t).length (vals (pickT ts t))) (htr : TR w (.slice a n c) n ts) (hl : (pickT ts t).map (·.l) = [x]) : One w v x := by
  obtain ⟨y, hy⟩ : ∃ y, pickT ts t = [y] := by
    have := congrArg List.length hl
    rw [List.length_map] at this
    exact List.length_eq_one_iff.1 this
  rw [hy] at h hl
  have hyl : y.l = x := List.singleton_inj.1 hl
  have hm : y ∈ ts := (List.mem_filter.1 (show y ∈ pickT ts t by rw [hy]; simp)).1
  have hb := htr.vals y hm
  obtain ⟨A, L, C, hv, _, _, _⟩ := hb.sl
  have hrd := own_rd h
  obtain ⟨a0, c0, ev, _, _⟩ := hrd.shape
  subst ev
  obtain ⟨b, o, rfl, hbl, hc⟩ := Rd.cells hrd (by simp) (by decide)
  have h0 := hc 0 (.slice A L C) (by simp [vals, hv])
  rw [hv, hyl] at hb
  exact ⟨b, o, c0, A, L, C, rfl, hbl, by simpa using h0, hb⟩
theorem One.below {w w' : World} {v : Value} {x : List UInt8} (h : One w v x) (hb : Below w.heap.size w w') : One w' v x := by
  obtain ⟨b, o, c, A, L, C, h1, h2, h3, h4⟩ := h
  exact ⟨b, o, c, A, L, C, h1, Nat.lt_of_lt_of_le h2 hb.size, cell_gr hb h3, h4.below hb⟩

set_option maxRecDepth 20000 in
set_option maxHeartbeats 8000000 in
theorem told_any (pc ps : Int) (A : Option Addr) (L C : Nat) (l : List UInt8) (hl : l.length = L) (d : Dm) (w : World) (hb : Bs w (.slice A L C) l) (hd : DOk w d) (ls : List PT) (hdec : dec l = (ls, 0)) (hu : allL ls 259 = if d.hu then [d.ul] else []) (hr : allL ls 272 = if d.hr then [d.rl] else []) (hL : L ≤ 1000000) :
    Calls Try.prog 27 #[.agg #[.int .i64 pc, .int .i64 ps, .slice A L C], .agg #[.int .i64 d.c, .int .i64 d.s, .string d.v, .slice d.ua d.un d.uc, .slice d.ra d.rn d.rc, .bool d.hu, .bool d.hr, .slice d.ka d.kn d.kc]] w fun e w' => e = .returned (.bool true) ∧ Below w.heap.size w w' := by
  have BA : Below w.heap.size w ((w.alloc (.cells #[.int .i64 pc, .int .i64 ps, .slice A L C] 24)).alloc (.cells #[.int .i64 d.c, .int .i64 d.s, .string d.v, .slice d.ua d.un d.uc, .slice d.ra d.rn d.rc, .bool d.hu, .bool d.hr, .slice d.ka d.kn d.kc] 36)) := ((Below.refl _ _).alloc (Nat.le_refl _) _).alloc (by simp) _
  have HBA := Lib.hid BA
  have HGD : Hid (((w.alloc (.cells #[.int .i64 pc, .int .i64 ps, .slice A L C] 24)).alloc (.cells #[.int .i64 d.c, .int .i64 d.s, .string d.v, .slice d.ua d.un d.uc, .slice d.ra d.rn d.rc, .bool d.hu, .bool d.hr, .slice d.ka d.kn d.kc] 36)).heap[w.heap.size + 1]? = some (.cells #[.int .i64 d.c, .int .i64 d.s, .string d.v, .slice d.ua d.un d.uc, .slice d.ra d.rn d.rc, .bool d.hu, .bool d.hr, .slice d.ka d.kn d.kc] 36 (0, 0))) := heap2_1' _ _ _
  have HD := Lib.hid hd
  have DE := Lib.hid (rdecode_any A L C l hl ((w.alloc (.cells #[.int .i64 pc, .int .i64 ps, .slice A L C] 24)).alloc (.cells #[.int .i64 d.c, .int .i64 d.s, .string d.v, .slice d.ua d.un d.uc, .slice d.ra d.rn d.rc, .bool d.hu, .bool d.hr, .slice d.ka d.kn d.kc] 36)) (hb.below BA) (by omega))
  have HDEC := Lib.hid hdec
  have HHU := Lib.hid hu
  have HHR := Lib.hid hr
  clear BA hb hd hl hdec hu hr
  go_enter Try.func27, Try.ntmps27
  go_wp2_with fail
  refine DE.out.mono ?_
  rintro e w2 ⟨v2, rfl, ⟨ts, hts, hto⟩, hb2⟩
  rw [HDEC.out] at hts
  rw [HDEC.out]
  have HB2 := Lib.hid (HBA.out.trans (hb2.mono HBA.out.size))
  have HGD2 := Lib.hid (heap_below HGD.out hb2)
  have htr := hto.tr
  obtain ⟨a2, c2, ev, _, _⟩ := htr.shape
  subst ev
  have hn64 : ts.length ≤ 64 := by rw [← plain_length, hts]; exact (dec_small l _ _ HDEC.out).1
  have HTR := Lib.hid htr
  have HTS := Lib.hid hts
  have U1 := Lib.hid (rall_any a2 _ c2 ts 259 w2 htr (by omega))
  clear DE hts hto hb2 htr
  go_wp2_with fail
  refine U1.out.mono ?_
  rintro e w3 ⟨v3, rfl, how3, hb3⟩
  have HB3 := Lib.hid (HB2.out.trans (hb3.mono HB2.out.size))
  have HGD3 := Lib.hid (heap_below HGD2.out hb3)
  have HTR3 := Lib.hid (HTR.out.below hb3)
  have HOW3 := Lib.hid how3
  have U2 := Lib.hid (rall_any a2 _ c2 ts 272 w3 HTR3.out (by omega))
  obtain ⟨a3, c3, ev, _, _⟩ := (own_rd how3).shape
  subst ev
  clear how3 hb3 U1
  go_wp2_with fail
  refine U2.out.mono ?_
  rintro e w4 ⟨v4, rfl, how4, hb4⟩
  have HB4 := Lib.hid (HB3.out.trans (hb4.mono HB3.out.size))
  have HGD4 := Lib.hid (heap_below HGD3.out hb4)
  have HTR4 := Lib.hid (HTR3.out.below hb4)
  have HOW34 := Lib.hid (ownsRow_below HOW3.out hb4)
  have HOW4 := Lib.hid how4
  obtain ⟨a4, c4, ev, _, _⟩ := (own_rd how4).shape
  subst ev
  have HPU : Hid ((pickT ts 259).map (·.l) = if d.hu then [d.ul] else []) := by show _ = _; rw [pick_plain, HTS.out]; exact HHU.out
  have HPR : Hid ((pickT ts 272).map (·.l) = if d.hr then [d.rl] else []) := by show _ = _; rw [pick_plain, HTS.out]; exact HHR.out
  obtain ⟨N, hN⟩ : ∃ N, N = (pickT ts 259).length := ⟨_, rfl⟩
  obtain ⟨M, hM⟩ : ∃ M, M = (pickT ts 272).length := ⟨_, rfl⟩
  have hN' : N = if d.hu then 1 else 0 := by
    have := congrArg List.length HPU.out
    rw [List.length_map, ← hN] at this
    rw [this]; cases d.hu <;> rfl
  have hM' : M = if d.hr then 1 else 0 := by
    have := congrArg List.length HPR.out
    rw [List.length_map, ← hM] at this
    rw [this]; cases d.hr <;> rfl
  have HU4 : Hid (d.hu = true → One w4 (.slice a3 N c3) d.ul) := fun h => by
    have h1 := HOW34.out
    rw [hN]
    exact pick_one h1 HTR4.out (by rw [HPU.out, h]; rfl)
  have HR4 : Hid (d.hr = true → One w4 (.slice a4 M c4) d.rl) := fun h => by
    have h1 := HOW4.out
    rw [hM]
    exact pick_one h1 HTR4.out (by rw [HPR.out, h]; rfl)
  have HD4 := Lib.hid (HD.out.below HB4.out)
  rw [← hN, ← hM]
  clear hN hM how4 hb4 U2 HPU HPR HOW34 HOW4 HTR4 HTR3 HTR HOW3 HGD3 HGD2 HGD HB3 HB2 HTS HHU HHR HDEC
  obtain ⟨k0, k1, k2, k3, k4, k5, k6, k7⟩ := cells8 HGD4.out
  cases hu : d.hu with
  | false =>
    rw [hu] at k5 hN'
    obtain rfl : N = 0 := hN'
    cases hr : d.hr with
    | false =>
      rw [hr] at k6 hM'
      obtain rfl : M = 0 := hM'
      have HU := Lib.hid hu
      have HR := Lib.hid hr
      clear hu hr
      go_wp2_with fail
      refine wp_region_G 29 Gr (by kernel_rfl) ?_
      -- 0: slot 45
      refine wpG_take preGr (i := 0) (v := ?_) (by kernel_rfl) (some 45) (by kernel_rfl) rfl (by kernel_rfl) (by kernel_rfl) (by kernel_rfl) (fun _ _ _ h => h) (by rfl) (fun w' hw' => ?_) rfl ?_
      rotate_left
      · have g3 := (cells8 (heap_below HGD4.out ((Gr.drew w4).trans hw'))).2.2.2.1
        have g4 := (cells8 (heap_below HGD4.out ((Gr.drew w4).trans hw'))).2.2.2.2.1
        have g5 := (cells8 (heap_below HGD4.out ((Gr.drew w4).trans hw'))).2.2.2.2.2.1
        have g6 := (cells8 (heap_below HGD4.out ((Gr.drew w4).trans hw'))).2.2.2.2.2.2.1
        simp only [HU.out] at g5
        simp only [HR.out] at g6
        go_simp
        with_reducible rfl
      simp only [Act.put, List.setIfInBounds_toArray, List.set_cons_zero, List.set_cons_succ]
      -- 1: slot 46
      refine wpG_take preGr (i := 1) (v := ?_) (by kernel_rfl) (some 46) (by kernel_rfl) rfl (by kernel_rfl) (by kernel_rfl) (by kernel_rfl) (fun _ _ _ h => h) (by rfl) (fun w' hw' => ?_) rfl ?_
      rotate_left
      · have g3 := (cells8 (heap_below HGD4.out ((Gr.drew w4).trans hw'))).2.2.2.1
        have g4 := (cells8 (heap_below HGD4.out ((Gr.drew w4).trans hw'))).2.2.2.2.1
        have g5 := (cells8 (heap_below HGD4.out ((Gr.drew w4).trans hw'))).2.2.2.2.2.1
        have g6 := (cells8 (heap_below HGD4.out ((Gr.drew w4).trans hw'))).2.2.2.2.2.2.1
        simp only [HU.out] at g5
        simp only [HR.out] at g6
        go_simp
        with_reducible rfl
      simp only [Act.put, List.setIfInBounds_toArray, List.set_cons_zero, List.set_cons_succ]
      -- 2: slot 47
      refine wpG_take preGr (i := 2) (v := ?_) (by kernel_rfl) (some 47) (by kernel_rfl) rfl (by kernel_rfl) (by kernel_rfl) (by kernel_rfl) (fun _ _ _ h => h) (by rfl) (fun w' hw' => ?_) rfl ?_
      rotate_left
      · have g3 := (cells8 (heap_below HGD4.out ((Gr.drew w4).trans hw'))).2.2.2.1
        have g4 := (cells8 (heap_below HGD4.out ((Gr.drew w4).trans hw'))).2.2.2.2.1
        have g5 := (cells8 (heap_below HGD4.out ((Gr.drew w4).trans hw'))).2.2.2.2.2.1
        have g6 := (cells8 (heap_below HGD4.out ((Gr.drew w4).trans hw'))).2.2.2.2.2.2.1
        simp only [HU.out] at g5
        simp only [HR.out] at g6
        go_simp
        with_reducible rfl
      simp only [Act.put, List.setIfInBounds_toArray, List.set_cons_zero, List.set_cons_succ]
      -- 3: slot 48
      refine wpG_take preGr (i := 3) (v := ?_) (by kernel_rfl) (some 48) (by kernel_rfl) rfl (by kernel_rfl) (by kernel_rfl) (by kernel_rfl) (fun _ _ _ h => h) (by rfl) (fun w' hw' => ?_) rfl ?_
      rotate_left
      · have g3 := (cells8 (heap_below HGD4.out ((Gr.drew w4).trans hw'))).2.2.2.1
        have g4 := (cells8 (heap_below HGD4.out ((Gr.drew w4).trans hw'))).2.2.2.2.1
        have g5 := (cells8 (heap_below HGD4.out ((Gr.drew w4).trans hw'))).2.2.2.2.2.1
        have g6 := (cells8 (heap_below HGD4.out ((Gr.drew w4).trans hw'))).2.2.2.2.2.2.1
        simp only [HU.out] at g5
        simp only [HR.out] at g6
        go_simp
        with_reducible rfl
      simp only [Act.put, List.setIfInBounds_toArray, List.set_cons_zero, List.set_cons_succ]
      refine wpG_pass preGr (i := 4) (by kernel_rfl) (some 49) (by kernel_rfl) rfl (by kernel_rfl) (by kernel_rfl) (by kernel_rfl) (fun _ _ _ h => h) (by rfl) rfl ?_
      simp only [Act.put, List.setIfInBounds_toArray, List.set_cons_zero, List.set_cons_succ]
      refine wpG_pass preGr (i := 5) (by kernel_rfl) (some 50) (by kernel_rfl) rfl (by kernel_rfl) (by kernel_rfl) (by kernel_rfl) (fun _ _ _ h => h) (by rfl) rfl ?_
      simp only [Act.put, List.setIfInBounds_toArray, List.set_cons_zero, List.set_cons_succ]
      refine wpG_pass preGr (i := 6) (by kernel_rfl) (some 51) (by kernel_rfl) rfl (by kernel_rfl) (by kernel_rfl) (by kernel_rfl) (fun _ _ _ h => h) (by rfl) rfl ?_
      simp only [Act.put, List.setIfInBounds_toArray, List.set_cons_zero, List.set_cons_succ]
      refine wpG_pass preGr (i := 7) (by kernel_rfl) (some 52) (by kernel_rfl) rfl (by kernel_rfl) (by kernel_rfl) (by kernel_rfl) (fun _ _ _ h => h) (by rfl) rfl ?_
      simp only [Act.put, List.setIfInBounds_toArray, List.set_cons_zero, List.set_cons_succ]
      refine wpG_pass preGr (i := 8) (by kernel_rfl) (some 53) (by kernel_rfl) rfl (by kernel_rfl) (by kernel_rfl) (by kernel_rfl) (fun _ _ _ h => h) (by rfl) rfl ?_
      simp only [Act.put, List.setIfInBounds_toArray, List.set_cons_zero, List.set_cons_succ]
      refine wpG_pass preGr (i := 9) (by kernel_rfl) (some 54) (by kernel_rfl) rfl (by kernel_rfl) (by kernel_rfl) (by kernel_rfl) (fun _ _ _ h => h) (by rfl) rfl ?_
      simp only [Act.put, List.setIfInBounds_toArray, List.set_cons_zero, List.set_cons_succ]
      refine wpG_pass preGr (i := 10) (by kernel_rfl) (some 55) (by kernel_rfl) rfl (by kernel_rfl) (by kernel_rfl) (by kernel_rfl) (fun _ _ _ h => h) (by rfl) rfl ?_
      simp only [Act.put, List.setIfInBounds_toArray, List.set_cons_zero, List.set_cons_succ]
      refine wpG_pass preGr (i := 11) (by kernel_rfl) (some 56) (by kernel_rfl) rfl (by kernel_rfl) (by kernel_rfl) (by kernel_rfl) (fun _ _ _ h => h) (by rfl) rfl ?_
      simp only [Act.put, List.setIfInBounds_toArray, List.set_cons_zero, List.set_cons_succ]
      -- 12: slot 57
      refine wpG_take preGr (i := 12) (v := ?_) (by kernel_rfl) (some 57) (by kernel_rfl) rfl (by kernel_rfl) (by kernel_rfl) (by kernel_rfl) (fun _ _ _ h => h) (by rfl) (fun w' hw' => ?_) rfl ?_
      rotate_left
      · have g3 := (cells8 (heap_below HGD4.out ((Gr.drew w4).trans hw'))).2.2.2.1
        have g4 := (cells8 (heap_below HGD4.out ((Gr.drew w4).trans hw'))).2.2.2.2.1
        have g5 := (cells8 (heap_below HGD4.out ((Gr.drew w4).trans hw'))).2.2.2.2.2.1
        have g6 := (cells8 (heap_below HGD4.out ((Gr.drew w4).trans hw'))).2.2.2.2.2.2.1
        simp only [HU.out] at g5
        simp only [HR.out] at g6
        go_simp
        with_reducible rfl
      simp only [Act.put, List.setIfInBounds_toArray, List.set_cons_zero, List.set_cons_succ]
      -- 13: slot 58
      refine wpG_take preGr (i := 13) (v := ?_) (by kernel_rfl) (some 58) (by kernel_rfl) rfl (by kernel_rfl) (by kernel_rfl) (by kernel_rfl) (fun _ _ _ h => h) (by rfl) (fun w' hw' => ?_) rfl ?_
      rotate_left
      · have g3 := (cells8 (heap_below HGD4.out ((Gr.drew w4).trans hw'))).2.2.2.1
        have g4 := (cells8 (heap_below HGD4.out ((Gr.drew w4).trans hw'))).2.2.2.2.1
        have g5 := (cells8 (heap_below HGD4.out ((Gr.drew w4).trans hw'))).2.2.2.2.2.1
        have g6 := (cells8 (heap_below HGD4.out ((Gr.drew w4).trans hw'))).2.2.2.2.2.2.1
        simp only [HU.out] at g5
        simp only [HR.out] at g6
        go_simp
        with_reducible rfl
      simp only [Act.put, List.setIfInBounds_toArray, List.set_cons_zero, List.set_cons_succ]
      -- 14: slot 59
      refine wpG_take preGr (i := 14) (v := ?_) (by kernel_rfl) (some 59) (by kernel_rfl) rfl (by kernel_rfl) (by kernel_rfl) (by kernel_rfl) (fun _ _ _ h => h) (by rfl) (fun w' hw' => ?_) rfl ?_
      rotate_left
      · have g3 := (cells8 (heap_below HGD4.out ((Gr.drew w4).trans hw'))).2.2.2.1
        have g4 := (cells8 (heap_below HGD4.out ((Gr.drew w4).trans hw'))).2.2.2.2.1
        have g5 := (cells8 (heap_below HGD4.out ((Gr.drew w4).trans hw'))).2.2.2.2.2.1
        have g6 := (cells8 (heap_below HGD4.out ((Gr.drew w4).trans hw'))).2.2.2.2.2.2.1
        simp only [HU.out] at g5
        simp only [HR.out] at g6
        go_simp
        with_reducible rfl
      simp only [Act.put, List.setIfInBounds_toArray, List.set_cons_zero, List.set_cons_succ]
      -- 15: slot 60
      refine wpG_take preGr (i := 15) (v := ?_) (by kernel_rfl) (some 60) (by kernel_rfl) rfl (by kernel_rfl) (by kernel_rfl) (by kernel_rfl) (fun _ _ _ h => h) (by rfl) (fun w' hw' => ?_) rfl ?_
      rotate_left
      · have g3 := (cells8 (heap_below HGD4.out ((Gr.drew w4).trans hw'))).2.2.2.1
        have g4 := (cells8 (heap_below HGD4.out ((Gr.drew w4).trans hw'))).2.2.2.2.1
        have g5 := (cells8 (heap_below HGD4.out ((Gr.drew w4).trans hw'))).2.2.2.2.2.1
        have g6 := (cells8 (heap_below HGD4.out ((Gr.drew w4).trans hw'))).2.2.2.2.2.2.1
        simp only [HU.out] at g5
        simp only [HR.out] at g6
        go_simp
        with_reducible rfl
      simp only [Act.put, List.setIfInBounds_toArray, List.set_cons_zero, List.set_cons_succ]
      -- 16: slot 61
      refine wpG_take preGr (i := 16) (v := ?_) (by kernel_rfl) (some 61) (by kernel_rfl) rfl (by kernel_rfl) (by kernel_rfl) (by kernel_rfl) (fun _ _ _ h => h) (by rfl) (fun w' hw' => ?_) rfl ?_
      rotate_left
      · have g3 := (cells8 (heap_below HGD4.out ((Gr.drew w4).trans hw'))).2.2.2.1
        have g4 := (cells8 (heap_below HGD4.out ((Gr.drew w4).trans hw'))).2.2.2.2.1
        have g5 := (cells8 (heap_below HGD4.out ((Gr.drew w4).trans hw'))).2.2.2.2.2.1
        have g6 := (cells8 (heap_below HGD4.out ((Gr.drew w4).trans hw'))).2.2.2.2.2.2.1
        simp only [HU.out] at g5
        simp only [HR.out] at g6
        go_simp
        with_reducible rfl
      simp only [Act.put, List.setIfInBounds_toArray, List.set_cons_zero, List.set_cons_succ]
      -- 17: slot 62
      refine wpG_take preGr (i := 17) (v := ?_) (by kernel_rfl) (some 62) (by kernel_rfl) rfl (by kernel_rfl) (by kernel_rfl) (by kernel_rfl) (fun _ _ _ h => h) (by rfl) (fun w' hw' => ?_) rfl ?_
      rotate_left
      · have g3 := (cells8 (heap_below HGD4.out ((Gr.drew w4).trans hw'))).2.2.2.1
        have g4 := (cells8 (heap_below HGD4.out ((Gr.drew w4).trans hw'))).2.2.2.2.1
        have g5 := (cells8 (heap_below HGD4.out ((Gr.drew w4).trans hw'))).2.2.2.2.2.1
        have g6 := (cells8 (heap_below HGD4.out ((Gr.drew w4).trans hw'))).2.2.2.2.2.2.1
        simp only [HU.out] at g5
        simp only [HR.out] at g6
        go_simp
        with_reducible rfl
      simp only [Act.put, List.setIfInBounds_toArray, List.set_cons_zero, List.set_cons_succ]
      refine wpG_pass preGr (i := 18) (by kernel_rfl) (some 63) (by kernel_rfl) rfl (by kernel_rfl) (by kernel_rfl) (by kernel_rfl) (fun _ _ _ h => h) (by rfl) rfl ?_
      simp only [Act.put, List.setIfInBounds_toArray, List.set_cons_zero, List.set_cons_succ]
      refine wpG_pass preGr (i := 19) (by kernel_rfl) (some 64) (by kernel_rfl) rfl (by kernel_rfl) (by kernel_rfl) (by kernel_rfl) (fun _ _ _ h => h) (by rfl) rfl ?_
      simp only [Act.put, List.setIfInBounds_toArray, List.set_cons_zero, List.set_cons_succ]
      refine wpG_pass preGr (i := 20) (by kernel_rfl) (some 65) (by kernel_rfl) rfl (by kernel_rfl) (by kernel_rfl) (by kernel_rfl) (fun _ _ _ h => h) (by rfl) rfl ?_
      simp only [Act.put, List.setIfInBounds_toArray, List.set_cons_zero, List.set_cons_succ]
      refine wpG_pass preGr (i := 21) (by kernel_rfl) (some 66) (by kernel_rfl) rfl (by kernel_rfl) (by kernel_rfl) (by kernel_rfl) (fun _ _ _ h => h) (by rfl) rfl ?_
      simp only [Act.put, List.setIfInBounds_toArray, List.set_cons_zero, List.set_cons_succ]
      refine wpG_pass preGr (i := 22) (by kernel_rfl) (some 67) (by kernel_rfl) rfl (by kernel_rfl) (by kernel_rfl) (by kernel_rfl) (fun _ _ _ h => h) (by rfl) rfl ?_
      simp only [Act.put, List.setIfInBounds_toArray, List.set_cons_zero, List.set_cons_succ]
      refine wpG_pass preGr (i := 23) (by kernel_rfl) (some 68) (by kernel_rfl) rfl (by kernel_rfl) (by kernel_rfl) (by kernel_rfl) (fun _ _ _ h => h) (by rfl) rfl ?_
      simp only [Act.put, List.setIfInBounds_toArray, List.set_cons_zero, List.set_cons_succ]
      refine wpG_pass preGr (i := 24) (by kernel_rfl) (some 69) (by kernel_rfl) rfl (by kernel_rfl) (by kernel_rfl) (by kernel_rfl) (fun _ _ _ h => h) (by rfl) rfl ?_
      simp only [Act.put, List.setIfInBounds_toArray, List.set_cons_zero, List.set_cons_succ]
      refine wpG_pass preGr (i := 25) (by kernel_rfl) (some 70) (by kernel_rfl) rfl (by kernel_rfl) (by kernel_rfl) (by kernel_rfl) (fun _ _ _ h => h) (by rfl) rfl ?_
      simp only [Act.put, List.setIfInBounds_toArray, List.set_cons_zero, List.set_cons_succ]
      -- 26: slot 71
      refine wpG_take preGr (i := 26) (v := ?_) (by kernel_rfl) (some 71) (by kernel_rfl) rfl (by kernel_rfl) (by kernel_rfl) (by kernel_rfl) (fun _ _ _ h => h) (by rfl) (fun w' hw' => ?_) rfl ?_
      rotate_left
      · have g3 := (cells8 (heap_below HGD4.out ((Gr.drew w4).trans hw'))).2.2.2.1
        have g4 := (cells8 (heap_below HGD4.out ((Gr.drew w4).trans hw'))).2.2.2.2.1
        have g5 := (cells8 (heap_below HGD4.out ((Gr.drew w4).trans hw'))).2.2.2.2.2.1
        have g6 := (cells8 (heap_below HGD4.out ((Gr.drew w4).trans hw'))).2.2.2.2.2.2.1
        simp only [HU.out] at g5
        simp only [HR.out] at g6
        go_simp
        with_reducible rfl
      simp only [Act.put, List.setIfInBounds_toArray, List.set_cons_zero, List.set_cons_succ]
      -- 27: slot 72
      refine wpG_take preGr (i := 27) (v := ?_) (by kernel_rfl) (some 72) (by kernel_rfl) rfl (by kernel_rfl) (by kernel_rfl) (by kernel_rfl) (fun _ _ _ h => h) (by rfl) (fun w' hw' => ?_) rfl ?_
      rotate_left
      · have g3 := (cells8 (heap_below HGD4.out ((Gr.drew w4).trans hw'))).2.2.2.1
        have g4 := (cells8 (heap_below HGD4.out ((Gr.drew w4).trans hw'))).2.2.2.2.1
        have g5 := (cells8 (heap_below HGD4.out ((Gr.drew w4).trans hw'))).2.2.2.2.2.1
        have g6 := (cells8 (heap_below HGD4.out ((Gr.drew w4).trans hw'))).2.2.2.2.2.2.1
        simp only [HU.out] at g5
        simp only [HR.out] at g6
        go_simp
        with_reducible rfl
      simp only [Act.put, List.setIfInBounds_toArray, List.set_cons_zero, List.set_cons_succ]
      -- 28: slot 4
      refine wpG_take preGr (i := 28) (v := ?_) (by kernel_rfl) (some 4) (by kernel_rfl) rfl (by kernel_rfl) (by kernel_rfl) (by kernel_rfl) (fun _ _ _ h => h) (by rfl) (fun w' hw' => ?_) rfl ?_
      rotate_left
      · have g3 := (cells8 (heap_below HGD4.out ((Gr.drew w4).trans hw'))).2.2.2.1
        have g4 := (cells8 (heap_below HGD4.out ((Gr.drew w4).trans hw'))).2.2.2.2.1
        have g5 := (cells8 (heap_below HGD4.out ((Gr.drew w4).trans hw'))).2.2.2.2.2.1
        have g6 := (cells8 (heap_below HGD4.out ((Gr.drew w4).trans hw'))).2.2.2.2.2.2.1
        simp only [HU.out] at g5
        simp only [HR.out] at g6
        go_simp
        with_reducible rfl
      simp only [Act.put, List.setIfInBounds_toArray, List.set_cons_zero, List.set_cons_succ]
      refine wpG_done (by kernel_rfl) ?_ _
      go_wp2
      go_ret
      exact ⟨by simp, HB4.out.drew⟩
    | true =>
      have hone := HR4.out hr
      rw [hr] at k6 hM'
      obtain rfl : M = 1 := hM'
      have HU := Lib.hid hu
      have HR := Lib.hid hr
      obtain ⟨br, orr, cr, Ar, Lr, Cr, er, hbr, hcr, hvr⟩ := hone
      obtain ⟨rfl, _, rfl⟩ := Value.slice.inj er
      have HCR := Lib.hid hcr
      have HVR := Lib.hid hvr
      clear hu hr hcr hvr
      go_wp2_with fail
      refine wp_region_G 29 Gr (by kernel_rfl) ?_
      -- 0: slot 45
      refine wpG_take preGr (i := 0) (v := ?_) (by kernel_rfl) (some 45) (by kernel_rfl) rfl (by kernel_rfl) (by kernel_rfl) (by kernel_rfl) (fun _ _ _ h => h) (by rfl) (fun w' hw' => ?_) rfl ?_
      rotate_left
      · have g3 := (cells8 (heap_below HGD4.out ((Gr.drew w4).trans hw'))).2.2.2.1
        have g4 := (cells8 (heap_below HGD4.out ((Gr.drew w4).trans hw'))).2.2.2.2.1
        have g5 := (cells8 (heap_below HGD4.out ((Gr.drew w4).trans hw'))).2.2.2.2.2.1
        have g6 := (cells8 (heap_below HGD4.out ((Gr.drew w4).trans hw'))).2.2.2.2.2.2.1
        simp only [HU.out] at g5
        simp only [HR.out] at g6
        have cr := cell_gr ((Gr.drew w4).trans hw') HCR.out
        have s3 := run_string_of (P := Try.prog) 22 9 5 Try.underlying22 Try.underlying5 Try.underlying9 (HVR.out.below ((Gr.drew w4).trans hw'))
        have s4 := run_string_of (P := Try.prog) 22 9 5 Try.underlying22 Try.underlying5 Try.underlying9 (HD4.out.r.below ((Gr.drew w4).trans hw'))
        go_simp
        with_reducible rfl
      simp only [Act.put, List.setIfInBounds_toArray, List.set_cons_zero, List.set_cons_succ]
      -- 1: slot 46
      refine wpG_take preGr (i := 1) (v := ?_) (by kernel_rfl) (some 46) (by kernel_rfl) rfl (by kernel_rfl) (by kernel_rfl) (by kernel_rfl) (fun _ _ _ h => h) (by rfl) (fun w' hw' => ?_) rfl ?_
      rotate_left
      · have g3 := (cells8 (heap_below HGD4.out ((Gr.drew w4).trans hw'))).2.2.2.1
        have g4 := (cells8 (heap_below HGD4.out ((Gr.drew w4).trans hw'))).2.2.2.2.1
        have g5 := (cells8 (heap_below HGD4.out ((Gr.drew w4).trans hw'))).2.2.2.2.2.1
        have g6 := (cells8 (heap_below HGD4.out ((Gr.drew w4).trans hw'))).2.2.2.2.2.2.1
        simp only [HU.out] at g5
        simp only [HR.out] at g6
        have cr := cell_gr ((Gr.drew w4).trans hw') HCR.out
        have s3 := run_string_of (P := Try.prog) 22 9 5 Try.underlying22 Try.underlying5 Try.underlying9 (HVR.out.below ((Gr.drew w4).trans hw'))
        have s4 := run_string_of (P := Try.prog) 22 9 5 Try.underlying22 Try.underlying5 Try.underlying9 (HD4.out.r.below ((Gr.drew w4).trans hw'))
        go_simp
        with_reducible rfl
      simp only [Act.put, List.setIfInBounds_toArray, List.set_cons_zero, List.set_cons_succ]
      -- 2: slot 47
      refine wpG_take preGr (i := 2) (v := ?_) (by kernel_rfl) (some 47) (by kernel_rfl) rfl (by kernel_rfl) (by kernel_rfl) (by kernel_rfl) (fun _ _ _ h => h) (by rfl) (fun w' hw' => ?_) rfl ?_
      rotate_left
      · have g3 := (cells8 (heap_below HGD4.out ((Gr.drew w4).trans hw'))).2.2.2.1
        have g4 := (cells8 (heap_below HGD4.out ((Gr.drew w4).trans hw'))).2.2.2.2.1
        have g5 := (cells8 (heap_below HGD4.out ((Gr.drew w4).trans hw'))).2.2.2.2.2.1
        have g6 := (cells8 (heap_below HGD4.out ((Gr.drew w4).trans hw'))).2.2.2.2.2.2.1
        simp only [HU.out] at g5
        simp only [HR.out] at g6
        have cr := cell_gr ((Gr.drew w4).trans hw') HCR.out
        have s3 := run_string_of (P := Try.prog) 22 9 5 Try.underlying22 Try.underlying5 Try.underlying9 (HVR.out.below ((Gr.drew w4).trans hw'))
        have s4 := run_string_of (P := Try.prog) 22 9 5 Try.underlying22 Try.underlying5 Try.underlying9 (HD4.out.r.below ((Gr.drew w4).trans hw'))
        go_simp
        with_reducible rfl
      simp only [Act.put, List.setIfInBounds_toArray, List.set_cons_zero, List.set_cons_succ]
      -- 3: slot 48
      refine wpG_take preGr (i := 3) (v := ?_) (by kernel_rfl) (some 48) (by kernel_rfl) rfl (by kernel_rfl) (by kernel_rfl) (by kernel_rfl) (fun _ _ _ h => h) (by rfl) (fun w' hw' => ?_) rfl ?_
      rotate_left
      · have g3 := (cells8 (heap_below HGD4.out ((Gr.drew w4).trans hw'))).2.2.2.1
        have g4 := (cells8 (heap_below HGD4.out ((Gr.drew w4).trans hw'))).2.2.2.2.1
        have g5 := (cells8 (heap_below HGD4.out ((Gr.drew w4).trans hw'))).2.2.2.2.2.1
        have g6 := (cells8 (heap_below HGD4.out ((Gr.drew w4).trans hw'))).2.2.2.2.2.2.1
        simp only [HU.out] at g5
        simp only [HR.out] at g6
        have cr := cell_gr ((Gr.drew w4).trans hw') HCR.out
        have s3 := run_string_of (P := Try.prog) 22 9 5 Try.underlying22 Try.underlying5 Try.underlying9 (HVR.out.below ((Gr.drew w4).trans hw'))
        have s4 := run_string_of (P := Try.prog) 22 9 5 Try.underlying22 Try.underlying5 Try.underlying9 (HD4.out.r.below ((Gr.drew w4).trans hw'))
        go_simp
        with_reducible rfl
      simp only [Act.put, List.setIfInBounds_toArray, List.set_cons_zero, List.set_cons_succ]
      refine wpG_pass preGr (i := 4) (by kernel_rfl) (some 49) (by kernel_rfl) rfl (by kernel_rfl) (by kernel_rfl) (by kernel_rfl) (fun _ _ _ h => h) (by rfl) rfl ?_
      simp only [Act.put, List.setIfInBounds_toArray, List.set_cons_zero, List.set_cons_succ]
      refine wpG_pass preGr (i := 5) (by kernel_rfl) (some 50) (by kernel_rfl) rfl (by kernel_rfl) (by kernel_rfl) (by kernel_rfl) (fun _ _ _ h => h) (by rfl) rfl ?_
      simp only [Act.put, List.setIfInBounds_toArray, List.set_cons_zero, List.set_cons_succ]
      refine wpG_pass preGr (i := 6) (by kernel_rfl) (some 51) (by kernel_rfl) rfl (by kernel_rfl) (by kernel_rfl) (by kernel_rfl) (fun _ _ _ h => h) (by rfl) rfl ?_
      simp only [Act.put, List.setIfInBounds_toArray, List.set_cons_zero, List.set_cons_succ]
      refine wpG_pass preGr (i := 7) (by kernel_rfl) (some 52) (by kernel_rfl) rfl (by kernel_rfl) (by kernel_rfl) (by kernel_rfl) (fun _ _ _ h => h) (by rfl) rfl ?_
      simp only [Act.put, List.setIfInBounds_toArray, List.set_cons_zero, List.set_cons_succ]
      refine wpG_pass preGr (i := 8) (by kernel_rfl) (some 53) (by kernel_rfl) rfl (by kernel_rfl) (by kernel_rfl) (by kernel_rfl) (fun _ _ _ h => h) (by rfl) rfl ?_
      simp only [Act.put, List.setIfInBounds_toArray, List.set_cons_zero, List.set_cons_succ]
      refine wpG_pass preGr (i := 9) (by kernel_rfl) (some 54) (by kernel_rfl) rfl (by kernel_rfl) (by kernel_rfl) (by kernel_rfl) (fun _ _ _ h => h) (by rfl) rfl ?_
      simp only [Act.put, List.setIfInBounds_toArray, List.set_cons_zero, List.set_cons_succ]
      refine wpG_pass preGr (i := 10) (by kernel_rfl) (some 55) (by kernel_rfl) rfl (by kernel_rfl) (by kernel_rfl) (by kernel_rfl) (fun _ _ _ h => h) (by rfl) rfl ?_
      simp only [Act.put, List.setIfInBounds_toArray, List.set_cons_zero, List.set_cons_succ]
      refine wpG_pass preGr (i := 11) (by kernel_rfl) (some 56) (by kernel_rfl) rfl (by kernel_rfl) (by kernel_rfl) (by kernel_rfl) (fun _ _ _ h => h) (by rfl) rfl ?_
      simp only [Act.put, List.setIfInBounds_toArray, List.set_cons_zero, List.set_cons_succ]
      -- 12: slot 57
      refine wpG_take preGr (i := 12) (v := ?_) (by kernel_rfl) (some 57) (by kernel_rfl) rfl (by kernel_rfl) (by kernel_rfl) (by kernel_rfl) (fun _ _ _ h => h) (by rfl) (fun w' hw' => ?_) rfl ?_
      rotate_left
      · have g3 := (cells8 (heap_below HGD4.out ((Gr.drew w4).trans hw'))).2.2.2.1
        have g4 := (cells8 (heap_below HGD4.out ((Gr.drew w4).trans hw'))).2.2.2.2.1
        have g5 := (cells8 (heap_below HGD4.out ((Gr.drew w4).trans hw'))).2.2.2.2.2.1
        have g6 := (cells8 (heap_below HGD4.out ((Gr.drew w4).trans hw'))).2.2.2.2.2.2.1
        simp only [HU.out] at g5
        simp only [HR.out] at g6
        have cr := cell_gr ((Gr.drew w4).trans hw') HCR.out
        have s3 := run_string_of (P := Try.prog) 22 9 5 Try.underlying22 Try.underlying5 Try.underlying9 (HVR.out.below ((Gr.drew w4).trans hw'))
        have s4 := run_string_of (P := Try.prog) 22 9 5 Try.underlying22 Try.underlying5 Try.underlying9 (HD4.out.r.below ((Gr.drew w4).trans hw'))
        go_simp
        with_reducible rfl
      simp only [Act.put, List.setIfInBounds_toArray, List.set_cons_zero, List.set_cons_succ]
      -- 13: slot 58
      refine wpG_take preGr (i := 13) (v := ?_) (by kernel_rfl) (some 58) (by kernel_rfl) rfl (by kernel_rfl) (by kernel_rfl) (by kernel_rfl) (fun _ _ _ h => h) (by rfl) (fun w' hw' => ?_) rfl ?_
      rotate_left
      · have g3 := (cells8 (heap_below HGD4.out ((Gr.drew w4).trans hw'))).2.2.2.1
        have g4 := (cells8 (heap_below HGD4.out ((Gr.drew w4).trans hw'))).2.2.2.2.1
        have g5 := (cells8 (heap_below HGD4.out ((Gr.drew w4).trans hw'))).2.2.2.2.2.1
        have g6 := (cells8 (heap_below HGD4.out ((Gr.drew w4).trans hw'))).2.2.2.2.2.2.1
        simp only [HU.out] at g5
        simp only [HR.out] at g6
        have cr := cell_gr ((Gr.drew w4).trans hw') HCR.out
        have s3 := run_string_of (P := Try.prog) 22 9 5 Try.underlying22 Try.underlying5 Try.underlying9 (HVR.out.below ((Gr.drew w4).trans hw'))
        have s4 := run_string_of (P := Try.prog) 22 9 5 Try.underlying22 Try.underlying5 Try.underlying9 (HD4.out.r.below ((Gr.drew w4).trans hw'))
        go_simp
        with_reducible rfl
      simp only [Act.put, List.setIfInBounds_toArray, List.set_cons_zero, List.set_cons_succ]
      -- 14: slot 59
      refine wpG_take preGr (i := 14) (v := ?_) (by kernel_rfl) (some 59) (by kernel_rfl) rfl (by kernel_rfl) (by kernel_rfl) (by kernel_rfl) (fun _ _ _ h => h) (by rfl) (fun w' hw' => ?_) rfl ?_
      rotate_left
      · have g3 := (cells8 (heap_below HGD4.out ((Gr.drew w4).trans hw'))).2.2.2.1
        have g4 := (cells8 (heap_below HGD4.out ((Gr.drew w4).trans hw'))).2.2.2.2.1
        have g5 := (cells8 (heap_below HGD4.out ((Gr.drew w4).trans hw'))).2.2.2.2.2.1
        have g6 := (cells8 (heap_below HGD4.out ((Gr.drew w4).trans hw'))).2.2.2.2.2.2.1
        simp only [HU.out] at g5
        simp only [HR.out] at g6
        have cr := cell_gr ((Gr.drew w4).trans hw') HCR.out
        have s3 := run_string_of (P := Try.prog) 22 9 5 Try.underlying22 Try.underlying5 Try.underlying9 (HVR.out.below ((Gr.drew w4).trans hw'))
        have s4 := run_string_of (P := Try.prog) 22 9 5 Try.underlying22 Try.underlying5 Try.underlying9 (HD4.out.r.below ((Gr.drew w4).trans hw'))
        go_simp
        with_reducible rfl
      simp only [Act.put, List.setIfInBounds_toArray, List.set_cons_zero, List.set_cons_succ]
      -- 15: slot 60
      refine wpG_take preGr (i := 15) (v := ?_) (by kernel_rfl) (some 60) (by kernel_rfl) rfl (by kernel_rfl) (by kernel_rfl) (by kernel_rfl) (fun _ _ _ h => h) (by rfl) (fun w' hw' => ?_) rfl ?_
      rotate_left
      · have g3 := (cells8 (heap_below HGD4.out ((Gr.drew w4).trans hw'))).2.2.2.1
        have g4 := (cells8 (heap_below HGD4.out ((Gr.drew w4).trans hw'))).2.2.2.2.1
        have g5 := (cells8 (heap_below HGD4.out ((Gr.drew w4).trans hw'))).2.2.2.2.2.1
        have g6 := (cells8 (heap_below HGD4.out ((Gr.drew w4).trans hw'))).2.2.2.2.2.2.1
        simp only [HU.out] at g5
        simp only [HR.out] at g6
        have cr := cell_gr ((Gr.drew w4).trans hw') HCR.out
        have s3 := run_string_of (P := Try.prog) 22 9 5 Try.underlying22 Try.underlying5 Try.underlying9 (HVR.out.below ((Gr.drew w4).trans hw'))
        have s4 := run_string_of (P := Try.prog) 22 9 5 Try.underlying22 Try.underlying5 Try.underlying9 (HD4.out.r.below ((Gr.drew w4).trans hw'))
        go_simp
        with_reducible rfl
      simp only [Act.put, List.setIfInBounds_toArray, List.set_cons_zero, List.set_cons_succ]
      -- 16: slot 61
      refine wpG_take preGr (i := 16) (v := ?_) (by kernel_rfl) (some 61) (by kernel_rfl) rfl (by kernel_rfl) (by kernel_rfl) (by kernel_rfl) (fun _ _ _ h => h) (by rfl) (fun w' hw' => ?_) rfl ?_
      rotate_left
      · have g3 := (cells8 (heap_below HGD4.out ((Gr.drew w4).trans hw'))).2.2.2.1
        have g4 := (cells8 (heap_below HGD4.out ((Gr.drew w4).trans hw'))).2.2.2.2.1
        have g5 := (cells8 (heap_below HGD4.out ((Gr.drew w4).trans hw'))).2.2.2.2.2.1
        have g6 := (cells8 (heap_below HGD4.out ((Gr.drew w4).trans hw'))).2.2.2.2.2.2.1
        simp only [HU.out] at g5
        simp only [HR.out] at g6
        have cr := cell_gr ((Gr.drew w4).trans hw') HCR.out
        have s3 := run_string_of (P := Try.prog) 22 9 5 Try.underlying22 Try.underlying5 Try.underlying9 (HVR.out.below ((Gr.drew w4).trans hw'))
        have s4 := run_string_of (P := Try.prog) 22 9 5 Try.underlying22 Try.underlying5 Try.underlying9 (HD4.out.r.below ((Gr.drew w4).trans hw'))
        go_simp
        with_reducible rfl
      simp only [Act.put, List.setIfInBounds_toArray, List.set_cons_zero, List.set_cons_succ]
      -- 17: slot 62
      refine wpG_take preGr (i := 17) (v := ?_) (by kernel_rfl) (some 62) (by kernel_rfl) rfl (by kernel_rfl) (by kernel_rfl) (by kernel_rfl) (fun _ _ _ h => h) (by rfl) (fun w' hw' => ?_) rfl ?_
      rotate_left
      · have g3 := (cells8 (heap_below HGD4.out ((Gr.drew w4).trans hw'))).2.2.2.1
        have g4 := (cells8 (heap_below HGD4.out ((Gr.drew w4).trans hw'))).2.2.2.2.1
        have g5 := (cells8 (heap_below HGD4.out ((Gr.drew w4).trans hw'))).2.2.2.2.2.1
        have g6 := (cells8 (heap_below HGD4.out ((Gr.drew w4).trans hw'))).2.2.2.2.2.2.1
        simp only [HU.out] at g5
        simp only [HR.out] at g6
        have cr := cell_gr ((Gr.drew w4).trans hw') HCR.out
        have s3 := run_string_of (P := Try.prog) 22 9 5 Try.underlying22 Try.underlying5 Try.underlying9 (HVR.out.below ((Gr.drew w4).trans hw'))
        have s4 := run_string_of (P := Try.prog) 22 9 5 Try.underlying22 Try.underlying5 Try.underlying9 (HD4.out.r.below ((Gr.drew w4).trans hw'))
        go_simp
        with_reducible rfl
      simp only [Act.put, List.setIfInBounds_toArray, List.set_cons_zero, List.set_cons_succ]
      -- 18: slot 63
      refine wpG_take preGr (i := 18) (v := ?_) (by kernel_rfl) (some 63) (by kernel_rfl) rfl (by kernel_rfl) (by kernel_rfl) (by kernel_rfl) (fun _ _ _ h => h) (by rfl) (fun w' hw' => ?_) rfl ?_
      rotate_left
      · have g3 := (cells8 (heap_below HGD4.out ((Gr.drew w4).trans hw'))).2.2.2.1
        have g4 := (cells8 (heap_below HGD4.out ((Gr.drew w4).trans hw'))).2.2.2.2.1
        have g5 := (cells8 (heap_below HGD4.out ((Gr.drew w4).trans hw'))).2.2.2.2.2.1
        have g6 := (cells8 (heap_below HGD4.out ((Gr.drew w4).trans hw'))).2.2.2.2.2.2.1
        simp only [HU.out] at g5
        simp only [HR.out] at g6
        have cr := cell_gr ((Gr.drew w4).trans hw') HCR.out
        have s3 := run_string_of (P := Try.prog) 22 9 5 Try.underlying22 Try.underlying5 Try.underlying9 (HVR.out.below ((Gr.drew w4).trans hw'))
        have s4 := run_string_of (P := Try.prog) 22 9 5 Try.underlying22 Try.underlying5 Try.underlying9 (HD4.out.r.below ((Gr.drew w4).trans hw'))
        go_simp
        with_reducible rfl
      simp only [Act.put, List.setIfInBounds_toArray, List.set_cons_zero, List.set_cons_succ]
      -- 19: slot 64
      refine wpG_take preGr (i := 19) (v := ?_) (by kernel_rfl) (some 64) (by kernel_rfl) rfl (by kernel_rfl) (by kernel_rfl) (by kernel_rfl) (fun _ _ _ h => h) (by rfl) (fun w' hw' => ?_) rfl ?_
      rotate_left
      · have g3 := (cells8 (heap_below HGD4.out ((Gr.drew w4).trans hw'))).2.2.2.1
        have g4 := (cells8 (heap_below HGD4.out ((Gr.drew w4).trans hw'))).2.2.2.2.1
        have g5 := (cells8 (heap_below HGD4.out ((Gr.drew w4).trans hw'))).2.2.2.2.2.1
        have g6 := (cells8 (heap_below HGD4.out ((Gr.drew w4).trans hw'))).2.2.2.2.2.2.1
        simp only [HU.out] at g5
        simp only [HR.out] at g6
        have cr := cell_gr ((Gr.drew w4).trans hw') HCR.out
        have s3 := run_string_of (P := Try.prog) 22 9 5 Try.underlying22 Try.underlying5 Try.underlying9 (HVR.out.below ((Gr.drew w4).trans hw'))
        have s4 := run_string_of (P := Try.prog) 22 9 5 Try.underlying22 Try.underlying5 Try.underlying9 (HD4.out.r.below ((Gr.drew w4).trans hw'))
        go_simp
        with_reducible rfl
      simp only [Act.put, List.setIfInBounds_toArray, List.set_cons_zero, List.set_cons_succ]
      -- 20: slot 65
      refine wpG_take preGr (i := 20) (v := ?_) (by kernel_rfl) (some 65) (by kernel_rfl) rfl (by kernel_rfl) (by kernel_rfl) (by kernel_rfl) (fun _ _ _ h => h) (by rfl) (fun w' hw' => ?_) rfl ?_
      rotate_left
      · have g3 := (cells8 (heap_below HGD4.out ((Gr.drew w4).trans hw'))).2.2.2.1
        have g4 := (cells8 (heap_below HGD4.out ((Gr.drew w4).trans hw'))).2.2.2.2.1
        have g5 := (cells8 (heap_below HGD4.out ((Gr.drew w4).trans hw'))).2.2.2.2.2.1
        have g6 := (cells8 (heap_below HGD4.out ((Gr.drew w4).trans hw'))).2.2.2.2.2.2.1
        simp only [HU.out] at g5
        simp only [HR.out] at g6
        have cr := cell_gr ((Gr.drew w4).trans hw') HCR.out
        have s3 := run_string_of (P := Try.prog) 22 9 5 Try.underlying22 Try.underlying5 Try.underlying9 (HVR.out.below ((Gr.drew w4).trans hw'))
        have s4 := run_string_of (P := Try.prog) 22 9 5 Try.underlying22 Try.underlying5 Try.underlying9 (HD4.out.r.below ((Gr.drew w4).trans hw'))
        go_simp
        with_reducible rfl
      simp only [Act.put, List.setIfInBounds_toArray, List.set_cons_zero, List.set_cons_succ]
      -- 21: slot 66
      refine wpG_take preGr (i := 21) (v := ?_) (by kernel_rfl) (some 66) (by kernel_rfl) rfl (by kernel_rfl) (by kernel_rfl) (by kernel_rfl) (fun _ _ _ h => h) (by rfl) (fun w' hw' => ?_) rfl ?_
      rotate_left
      · have g3 := (cells8 (heap_below HGD4.out ((Gr.drew w4).trans hw'))).2.2.2.1
        have g4 := (cells8 (heap_below HGD4.out ((Gr.drew w4).trans hw'))).2.2.2.2.1
        have g5 := (cells8 (heap_below HGD4.out ((Gr.drew w4).trans hw'))).2.2.2.2.2.1
        have g6 := (cells8 (heap_below HGD4.out ((Gr.drew w4).trans hw'))).2.2.2.2.2.2.1
        simp only [HU.out] at g5
        simp only [HR.out] at g6
        have cr := cell_gr ((Gr.drew w4).trans hw') HCR.out
        have s3 := run_string_of (P := Try.prog) 22 9 5 Try.underlying22 Try.underlying5 Try.underlying9 (HVR.out.below ((Gr.drew w4).trans hw'))
        have s4 := run_string_of (P := Try.prog) 22 9 5 Try.underlying22 Try.underlying5 Try.underlying9 (HD4.out.r.below ((Gr.drew w4).trans hw'))
        go_simp
        with_reducible rfl
      simp only [Act.put, List.setIfInBounds_toArray, List.set_cons_zero, List.set_cons_succ]
      -- 22: slot 67
      refine wpG_take preGr (i := 22) (v := ?_) (by kernel_rfl) (some 67) (by kernel_rfl) rfl (by kernel_rfl) (by kernel_rfl) (by kernel_rfl) (fun _ _ _ h => h) (by rfl) (fun w' hw' => ?_) rfl ?_
      rotate_left
      · have g3 := (cells8 (heap_below HGD4.out ((Gr.drew w4).trans hw'))).2.2.2.1
        have g4 := (cells8 (heap_below HGD4.out ((Gr.drew w4).trans hw'))).2.2.2.2.1
        have g5 := (cells8 (heap_below HGD4.out ((Gr.drew w4).trans hw'))).2.2.2.2.2.1
        have g6 := (cells8 (heap_below HGD4.out ((Gr.drew w4).trans hw'))).2.2.2.2.2.2.1
        simp only [HU.out] at g5
        simp only [HR.out] at g6
        have cr := cell_gr ((Gr.drew w4).trans hw') HCR.out
        have s3 := run_string_of (P := Try.prog) 22 9 5 Try.underlying22 Try.underlying5 Try.underlying9 (HVR.out.below ((Gr.drew w4).trans hw'))
        have s4 := run_string_of (P := Try.prog) 22 9 5 Try.underlying22 Try.underlying5 Try.underlying9 (HD4.out.r.below ((Gr.drew w4).trans hw'))
        go_simp
        with_reducible rfl
      simp only [Act.put, List.setIfInBounds_toArray, List.set_cons_zero, List.set_cons_succ]
      -- 23: slot 68
      refine wpG_take preGr (i := 23) (v := ?_) (by kernel_rfl) (some 68) (by kernel_rfl) rfl (by kernel_rfl) (by kernel_rfl) (by kernel_rfl) (fun _ _ _ h => h) (by rfl) (fun w' hw' => ?_) rfl ?_
      rotate_left
      · have g3 := (cells8 (heap_below HGD4.out ((Gr.drew w4).trans hw'))).2.2.2.1
        have g4 := (cells8 (heap_below HGD4.out ((Gr.drew w4).trans hw'))).2.2.2.2.1
        have g5 := (cells8 (heap_below HGD4.out ((Gr.drew w4).trans hw'))).2.2.2.2.2.1
        have g6 := (cells8 (heap_below HGD4.out ((Gr.drew w4).trans hw'))).2.2.2.2.2.2.1
        simp only [HU.out] at g5
        simp only [HR.out] at g6
        have cr := cell_gr ((Gr.drew w4).trans hw') HCR.out
        have s3 := run_string_of (P := Try.prog) 22 9 5 Try.underlying22 Try.underlying5 Try.underlying9 (HVR.out.below ((Gr.drew w4).trans hw'))
        have s4 := run_string_of (P := Try.prog) 22 9 5 Try.underlying22 Try.underlying5 Try.underlying9 (HD4.out.r.below ((Gr.drew w4).trans hw'))
        go_simp
        with_reducible rfl
      simp only [Act.put, List.setIfInBounds_toArray, List.set_cons_zero, List.set_cons_succ]
      -- 24: slot 69
      refine wpG_take preGr (i := 24) (v := ?_) (by kernel_rfl) (some 69) (by kernel_rfl) rfl (by kernel_rfl) (by kernel_rfl) (by kernel_rfl) (fun _ _ _ h => h) (by rfl) (fun w' hw' => ?_) rfl ?_
      rotate_left
      · have g3 := (cells8 (heap_below HGD4.out ((Gr.drew w4).trans hw'))).2.2.2.1
        have g4 := (cells8 (heap_below HGD4.out ((Gr.drew w4).trans hw'))).2.2.2.2.1
        have g5 := (cells8 (heap_below HGD4.out ((Gr.drew w4).trans hw'))).2.2.2.2.2.1
        have g6 := (cells8 (heap_below HGD4.out ((Gr.drew w4).trans hw'))).2.2.2.2.2.2.1
        simp only [HU.out] at g5
        simp only [HR.out] at g6
        have cr := cell_gr ((Gr.drew w4).trans hw') HCR.out
        have s3 := run_string_of (P := Try.prog) 22 9 5 Try.underlying22 Try.underlying5 Try.underlying9 (HVR.out.below ((Gr.drew w4).trans hw'))
        have s4 := run_string_of (P := Try.prog) 22 9 5 Try.underlying22 Try.underlying5 Try.underlying9 (HD4.out.r.below ((Gr.drew w4).trans hw'))
        go_simp
        with_reducible rfl
      simp only [Act.put, List.setIfInBounds_toArray, List.set_cons_zero, List.set_cons_succ]
      -- 25: slot 70
      refine wpG_take preGr (i := 25) (v := ?_) (by kernel_rfl) (some 70) (by kernel_rfl) rfl (by kernel_rfl) (by kernel_rfl) (by kernel_rfl) (fun _ _ _ h => h) (by rfl) (fun w' hw' => ?_) rfl ?_
      rotate_left
      · have g3 := (cells8 (heap_below HGD4.out ((Gr.drew w4).trans hw'))).2.2.2.1
        have g4 := (cells8 (heap_below HGD4.out ((Gr.drew w4).trans hw'))).2.2.2.2.1
        have g5 := (cells8 (heap_below HGD4.out ((Gr.drew w4).trans hw'))).2.2.2.2.2.1
        have g6 := (cells8 (heap_below HGD4.out ((Gr.drew w4).trans hw'))).2.2.2.2.2.2.1
        simp only [HU.out] at g5
        simp only [HR.out] at g6
        have cr := cell_gr ((Gr.drew w4).trans hw') HCR.out
        have s3 := run_string_of (P := Try.prog) 22 9 5 Try.underlying22 Try.underlying5 Try.underlying9 (HVR.out.below ((Gr.drew w4).trans hw'))
        have s4 := run_string_of (P := Try.prog) 22 9 5 Try.underlying22 Try.underlying5 Try.underlying9 (HD4.out.r.below ((Gr.drew w4).trans hw'))
        go_simp
        with_reducible rfl
      simp only [Act.put, List.setIfInBounds_toArray, List.set_cons_zero, List.set_cons_succ]
      -- 26: slot 71
      refine wpG_take preGr (i := 26) (v := ?_) (by kernel_rfl) (some 71) (by kernel_rfl) rfl (by kernel_rfl) (by kernel_rfl) (by kernel_rfl) (fun _ _ _ h => h) (by rfl) (fun w' hw' => ?_) rfl ?_
      rotate_left
      · have g3 := (cells8 (heap_below HGD4.out ((Gr.drew w4).trans hw'))).2.2.2.1
        have g4 := (cells8 (heap_below HGD4.out ((Gr.drew w4).trans hw'))).2.2.2.2.1
        have g5 := (cells8 (heap_below HGD4.out ((Gr.drew w4).trans hw'))).2.2.2.2.2.1
        have g6 := (cells8 (heap_below HGD4.out ((Gr.drew w4).trans hw'))).2.2.2.2.2.2.1
        simp only [HU.out] at g5
        simp only [HR.out] at g6
        have cr := cell_gr ((Gr.drew w4).trans hw') HCR.out
        have s3 := run_string_of (P := Try.prog) 22 9 5 Try.underlying22 Try.underlying5 Try.underlying9 (HVR.out.below ((Gr.drew w4).trans hw'))
        have s4 := run_string_of (P := Try.prog) 22 9 5 Try.underlying22 Try.underlying5 Try.underlying9 (HD4.out.r.below ((Gr.drew w4).trans hw'))
        go_simp
        with_reducible rfl
      simp only [Act.put, List.setIfInBounds_toArray, List.set_cons_zero, List.set_cons_succ]
      -- 27: slot 72
      refine wpG_take preGr (i := 27) (v := ?_) (by kernel_rfl) (some 72) (by kernel_rfl) rfl (by kernel_rfl) (by kernel_rfl) (by kernel_rfl) (fun _ _ _ h => h) (by rfl) (fun w' hw' => ?_) rfl ?_
      rotate_left
      · have g3 := (cells8 (heap_below HGD4.out ((Gr.drew w4).trans hw'))).2.2.2.1
        have g4 := (cells8 (heap_below HGD4.out ((Gr.drew w4).trans hw'))).2.2.2.2.1
        have g5 := (cells8 (heap_below HGD4.out ((Gr.drew w4).trans hw'))).2.2.2.2.2.1
        have g6 := (cells8 (heap_below HGD4.out ((Gr.drew w4).trans hw'))).2.2.2.2.2.2.1
        simp only [HU.out] at g5
        simp only [HR.out] at g6
        have cr := cell_gr ((Gr.drew w4).trans hw') HCR.out
        have s3 := run_string_of (P := Try.prog) 22 9 5 Try.underlying22 Try.underlying5 Try.underlying9 (HVR.out.below ((Gr.drew w4).trans hw'))
        have s4 := run_string_of (P := Try.prog) 22 9 5 Try.underlying22 Try.underlying5 Try.underlying9 (HD4.out.r.below ((Gr.drew w4).trans hw'))
        go_simp
        with_reducible rfl
      simp only [Act.put, List.setIfInBounds_toArray, List.set_cons_zero, List.set_cons_succ]
      -- 28: slot 4
      refine wpG_take preGr (i := 28) (v := ?_) (by kernel_rfl) (some 4) (by kernel_rfl) rfl (by kernel_rfl) (by kernel_rfl) (by kernel_rfl) (fun _ _ _ h => h) (by rfl) (fun w' hw' => ?_) rfl ?_
      rotate_left
      · have g3 := (cells8 (heap_below HGD4.out ((Gr.drew w4).trans hw'))).2.2.2.1
        have g4 := (cells8 (heap_below HGD4.out ((Gr.drew w4).trans hw'))).2.2.2.2.1
        have g5 := (cells8 (heap_below HGD4.out ((Gr.drew w4).trans hw'))).2.2.2.2.2.1
        have g6 := (cells8 (heap_below HGD4.out ((Gr.drew w4).trans hw'))).2.2.2.2.2.2.1
        simp only [HU.out] at g5
        simp only [HR.out] at g6
        have cr := cell_gr ((Gr.drew w4).trans hw') HCR.out
        have s3 := run_string_of (P := Try.prog) 22 9 5 Try.underlying22 Try.underlying5 Try.underlying9 (HVR.out.below ((Gr.drew w4).trans hw'))
        have s4 := run_string_of (P := Try.prog) 22 9 5 Try.underlying22 Try.underlying5 Try.underlying9 (HD4.out.r.below ((Gr.drew w4).trans hw'))
        go_simp
        with_reducible rfl
      simp only [Act.put, List.setIfInBounds_toArray, List.set_cons_zero, List.set_cons_succ]
      refine wpG_done (by kernel_rfl) ?_ _
      go_wp2
      go_ret
      exact ⟨by simp, HB4.out.drew⟩
  | true =>
    have hone := HU4.out hu
    rw [hu] at k5 hN'
    obtain rfl : N = 1 := hN'
    obtain ⟨bu, ou, cu, Au, Lu, Cu, eu, hbu, hcu, hvu⟩ := hone
    obtain ⟨rfl, _, rfl⟩ := Value.slice.inj eu
    have HCU := Lib.hid hcu
    have HVU := Lib.hid hvu
    clear hcu hvu
    cases hr : d.hr with
    | false =>
      rw [hr] at k6 hM'
      obtain rfl : M = 0 := hM'
      have HU := Lib.hid hu
      have HR := Lib.hid hr
      clear hu hr
      go_wp2_with fail
      refine wp_region_G 29 Gr (by kernel_rfl) ?_
      -- 0: slot 45
      refine wpG_take preGr (i := 0) (v := ?_) (by kernel_rfl) (some 45) (by kernel_rfl) rfl (by kernel_rfl) (by kernel_rfl) (by kernel_rfl) (fun _ _ _ h => h) (by rfl) (fun w' hw' => ?_) rfl ?_
      rotate_left
      · have g3 := (cells8 (heap_below HGD4.out ((Gr.drew w4).trans hw'))).2.2.2.1
        have g4 := (cells8 (heap_below HGD4.out ((Gr.drew w4).trans hw'))).2.2.2.2.1
        have g5 := (cells8 (heap_below HGD4.out ((Gr.drew w4).trans hw'))).2.2.2.2.2.1
        have g6 := (cells8 (heap_below HGD4.out ((Gr.drew w4).trans hw'))).2.2.2.2.2.2.1
        simp only [HU.out] at g5
        simp only [HR.out] at g6
        have cu := cell_gr ((Gr.drew w4).trans hw') HCU.out
        have s1 := run_string_of (P := Try.prog) 22 9 5 Try.underlying22 Try.underlying5 Try.underlying9 (HVU.out.below ((Gr.drew w4).trans hw'))
        have s2 := run_string_of (P := Try.prog) 22 9 5 Try.underlying22 Try.underlying5 Try.underlying9 (HD4.out.u.below ((Gr.drew w4).trans hw'))
        go_simp
        with_reducible rfl
      simp only [Act.put, List.setIfInBounds_toArray, List.set_cons_zero, List.set_cons_succ]
      -- 1: slot 46
      refine wpG_take preGr (i := 1) (v := ?_) (by kernel_rfl) (some 46) (by kernel_rfl) rfl (by kernel_rfl) (by kernel_rfl) (by kernel_rfl) (fun _ _ _ h => h) (by rfl) (fun w' hw' => ?_) rfl ?_
      rotate_left
      · have g3 := (cells8 (heap_below HGD4.out ((Gr.drew w4).trans hw'))).2.2.2.1
        have g4 := (cells8 (heap_below HGD4.out ((Gr.drew w4).trans hw'))).2.2.2.2.1
        have g5 := (cells8 (heap_below HGD4.out ((Gr.drew w4).trans hw'))).2.2.2.2.2.1
        have g6 := (cells8 (heap_below HGD4.out ((Gr.drew w4).trans hw'))).2.2.2.2.2.2.1
        simp only [HU.out] at g5
        simp only [HR.out] at g6
        have cu := cell_gr ((Gr.drew w4).trans hw') HCU.out
        have s1 := run_string_of (P := Try.prog) 22 9 5 Try.underlying22 Try.underlying5 Try.underlying9 (HVU.out.below ((Gr.drew w4).trans hw'))
        have s2 := run_string_of (P := Try.prog) 22 9 5 Try.underlying22 Try.underlying5 Try.underlying9 (HD4.out.u.below ((Gr.drew w4).trans hw'))
        go_simp
        with_reducible rfl
      simp only [Act.put, List.setIfInBounds_toArray, List.set_cons_zero, List.set_cons_succ]
      -- 2: slot 47
      refine wpG_take preGr (i := 2) (v := ?_) (by kernel_rfl) (some 47) (by kernel_rfl) rfl (by kernel_rfl) (by kernel_rfl) (by kernel_rfl) (fun _ _ _ h => h) (by rfl) (fun w' hw' => ?_) rfl ?_
      rotate_left
      · have g3 := (cells8 (heap_below HGD4.out ((Gr.drew w4).trans hw'))).2.2.2.1
        have g4 := (cells8 (heap_below HGD4.out ((Gr.drew w4).trans hw'))).2.2.2.2.1
        have g5 := (cells8 (heap_below HGD4.out ((Gr.drew w4).trans hw'))).2.2.2.2.2.1
        have g6 := (cells8 (heap_below HGD4.out ((Gr.drew w4).trans hw'))).2.2.2.2.2.2.1
        simp only [HU.out] at g5
        simp only [HR.out] at g6
        have cu := cell_gr ((Gr.drew w4).trans hw') HCU.out
        have s1 := run_string_of (P := Try.prog) 22 9 5 Try.underlying22 Try.underlying5 Try.underlying9 (HVU.out.below ((Gr.drew w4).trans hw'))
        have s2 := run_string_of (P := Try.prog) 22 9 5 Try.underlying22 Try.underlying5 Try.underlying9 (HD4.out.u.below ((Gr.drew w4).trans hw'))
        go_simp
        with_reducible rfl
      simp only [Act.put, List.setIfInBounds_toArray, List.set_cons_zero, List.set_cons_succ]
      -- 3: slot 48
      refine wpG_take preGr (i := 3) (v := ?_) (by kernel_rfl) (some 48) (by kernel_rfl) rfl (by kernel_rfl) (by kernel_rfl) (by kernel_rfl) (fun _ _ _ h => h) (by rfl) (fun w' hw' => ?_) rfl ?_
      rotate_left
      · have g3 := (cells8 (heap_below HGD4.out ((Gr.drew w4).trans hw'))).2.2.2.1
        have g4 := (cells8 (heap_below HGD4.out ((Gr.drew w4).trans hw'))).2.2.2.2.1
        have g5 := (cells8 (heap_below HGD4.out ((Gr.drew w4).trans hw'))).2.2.2.2.2.1
        have g6 := (cells8 (heap_below HGD4.out ((Gr.drew w4).trans hw'))).2.2.2.2.2.2.1
        simp only [HU.out] at g5
        simp only [HR.out] at g6
        have cu := cell_gr ((Gr.drew w4).trans hw') HCU.out
        have s1 := run_string_of (P := Try.prog) 22 9 5 Try.underlying22 Try.underlying5 Try.underlying9 (HVU.out.below ((Gr.drew w4).trans hw'))
        have s2 := run_string_of (P := Try.prog) 22 9 5 Try.underlying22 Try.underlying5 Try.underlying9 (HD4.out.u.below ((Gr.drew w4).trans hw'))
        go_simp
        with_reducible rfl
      simp only [Act.put, List.setIfInBounds_toArray, List.set_cons_zero, List.set_cons_succ]
      -- 4: slot 49
      refine wpG_take preGr (i := 4) (v := ?_) (by kernel_rfl) (some 49) (by kernel_rfl) rfl (by kernel_rfl) (by kernel_rfl) (by kernel_rfl) (fun _ _ _ h => h) (by rfl) (fun w' hw' => ?_) rfl ?_
      rotate_left
      · have g3 := (cells8 (heap_below HGD4.out ((Gr.drew w4).trans hw'))).2.2.2.1
        have g4 := (cells8 (heap_below HGD4.out ((Gr.drew w4).trans hw'))).2.2.2.2.1
        have g5 := (cells8 (heap_below HGD4.out ((Gr.drew w4).trans hw'))).2.2.2.2.2.1
        have g6 := (cells8 (heap_below HGD4.out ((Gr.drew w4).trans hw'))).2.2.2.2.2.2.1
        simp only [HU.out] at g5
        simp only [HR.out] at g6
        have cu := cell_gr ((Gr.drew w4).trans hw') HCU.out
        have s1 := run_string_of (P := Try.prog) 22 9 5 Try.underlying22 Try.underlying5 Try.underlying9 (HVU.out.below ((Gr.drew w4).trans hw'))
        have s2 := run_string_of (P := Try.prog) 22 9 5 Try.underlying22 Try.underlying5 Try.underlying9 (HD4.out.u.below ((Gr.drew w4).trans hw'))
        go_simp
        with_reducible rfl
      simp only [Act.put, List.setIfInBounds_toArray, List.set_cons_zero, List.set_cons_succ]
      -- 5: slot 50
      refine wpG_take preGr (i := 5) (v := ?_) (by kernel_rfl) (some 50) (by kernel_rfl) rfl (by kernel_rfl) (by kernel_rfl) (by kernel_rfl) (fun _ _ _ h => h) (by rfl) (fun w' hw' => ?_) rfl ?_
      rotate_left
      · have g3 := (cells8 (heap_below HGD4.out ((Gr.drew w4).trans hw'))).2.2.2.1
        have g4 := (cells8 (heap_below HGD4.out ((Gr.drew w4).trans hw'))).2.2.2.2.1
        have g5 := (cells8 (heap_below HGD4.out ((Gr.drew w4).trans hw'))).2.2.2.2.2.1
        have g6 := (cells8 (heap_below HGD4.out ((Gr.drew w4).trans hw'))).2.2.2.2.2.2.1
        simp only [HU.out] at g5
        simp only [HR.out] at g6
        have cu := cell_gr ((Gr.drew w4).trans hw') HCU.out
        have s1 := run_string_of (P := Try.prog) 22 9 5 Try.underlying22 Try.underlying5 Try.underlying9 (HVU.out.below ((Gr.drew w4).trans hw'))
        have s2 := run_string_of (P := Try.prog) 22 9 5 Try.underlying22 Try.underlying5 Try.underlying9 (HD4.out.u.below ((Gr.drew w4).trans hw'))
        go_simp
        with_reducible rfl
      simp only [Act.put, List.setIfInBounds_toArray, List.set_cons_zero, List.set_cons_succ]
      -- 6: slot 51
      refine wpG_take preGr (i := 6) (v := ?_) (by kernel_rfl) (some 51) (by kernel_rfl) rfl (by kernel_rfl) (by kernel_rfl) (by kernel_rfl) (fun _ _ _ h => h) (by rfl) (fun w' hw' => ?_) rfl ?_
      rotate_left
      · have g3 := (cells8 (heap_below HGD4.out ((Gr.drew w4).trans hw'))).2.2.2.1
        have g4 := (cells8 (heap_below HGD4.out ((Gr.drew w4).trans hw'))).2.2.2.2.1
        have g5 := (cells8 (heap_below HGD4.out ((Gr.drew w4).trans hw'))).2.2.2.2.2.1
        have g6 := (cells8 (heap_below HGD4.out ((Gr.drew w4).trans hw'))).2.2.2.2.2.2.1
        simp only [HU.out] at g5
        simp only [HR.out] at g6
        have cu := cell_gr ((Gr.drew w4).trans hw') HCU.out
        have s1 := run_string_of (P := Try.prog) 22 9 5 Try.underlying22 Try.underlying5 Try.underlying9 (HVU.out.below ((Gr.drew w4).trans hw'))
        have s2 := run_string_of (P := Try.prog) 22 9 5 Try.underlying22 Try.underlying5 Try.underlying9 (HD4.out.u.below ((Gr.drew w4).trans hw'))
        go_simp
        with_reducible rfl
      simp only [Act.put, List.setIfInBounds_toArray, List.set_cons_zero, List.set_cons_succ]
      -- 7: slot 52
      refine wpG_take preGr (i := 7) (v := ?_) (by kernel_rfl) (some 52) (by kernel_rfl) rfl (by kernel_rfl) (by kernel_rfl) (by kernel_rfl) (fun _ _ _ h => h) (by rfl) (fun w' hw' => ?_) rfl ?_
      rotate_left
      · have g3 := (cells8 (heap_below HGD4.out ((Gr.drew w4).trans hw'))).2.2.2.1
        have g4 := (cells8 (heap_below HGD4.out ((Gr.drew w4).trans hw'))).2.2.2.2.1
        have g5 := (cells8 (heap_below HGD4.out ((Gr.drew w4).trans hw'))).2.2.2.2.2.1
        have g6 := (cells8 (heap_below HGD4.out ((Gr.drew w4).trans hw'))).2.2.2.2.2.2.1
        simp only [HU.out] at g5
        simp only [HR.out] at g6
        have cu := cell_gr ((Gr.drew w4).trans hw') HCU.out
        have s1 := run_string_of (P := Try.prog) 22 9 5 Try.underlying22 Try.underlying5 Try.underlying9 (HVU.out.below ((Gr.drew w4).trans hw'))
        have s2 := run_string_of (P := Try.prog) 22 9 5 Try.underlying22 Try.underlying5 Try.underlying9 (HD4.out.u.below ((Gr.drew w4).trans hw'))
        go_simp
        with_reducible rfl
      simp only [Act.put, List.setIfInBounds_toArray, List.set_cons_zero, List.set_cons_succ]
      -- 8: slot 53
      refine wpG_take preGr (i := 8) (v := ?_) (by kernel_rfl) (some 53) (by kernel_rfl) rfl (by kernel_rfl) (by kernel_rfl) (by kernel_rfl) (fun _ _ _ h => h) (by rfl) (fun w' hw' => ?_) rfl ?_
      rotate_left
      · have g3 := (cells8 (heap_below HGD4.out ((Gr.drew w4).trans hw'))).2.2.2.1
        have g4 := (cells8 (heap_below HGD4.out ((Gr.drew w4).trans hw'))).2.2.2.2.1
        have g5 := (cells8 (heap_below HGD4.out ((Gr.drew w4).trans hw'))).2.2.2.2.2.1
        have g6 := (cells8 (heap_below HGD4.out ((Gr.drew w4).trans hw'))).2.2.2.2.2.2.1
        simp only [HU.out] at g5
        simp only [HR.out] at g6
        have cu := cell_gr ((Gr.drew w4).trans hw') HCU.out
        have s1 := run_string_of (P := Try.prog) 22 9 5 Try.underlying22 Try.underlying5 Try.underlying9 (HVU.out.below ((Gr.drew w4).trans hw'))
        have s2 := run_string_of (P := Try.prog) 22 9 5 Try.underlying22 Try.underlying5 Try.underlying9 (HD4.out.u.below ((Gr.drew w4).trans hw'))
        go_simp
        with_reducible rfl
      simp only [Act.put, List.setIfInBounds_toArray, List.set_cons_zero, List.set_cons_succ]
      -- 9: slot 54
      refine wpG_take preGr (i := 9) (v := ?_) (by kernel_rfl) (some 54) (by kernel_rfl) rfl (by kernel_rfl) (by kernel_rfl) (by kernel_rfl) (fun _ _ _ h => h) (by rfl) (fun w' hw' => ?_) rfl ?_
      rotate_left
      · have g3 := (cells8 (heap_below HGD4.out ((Gr.drew w4).trans hw'))).2.2.2.1
        have g4 := (cells8 (heap_below HGD4.out ((Gr.drew w4).trans hw'))).2.2.2.2.1
        have g5 := (cells8 (heap_below HGD4.out ((Gr.drew w4).trans hw'))).2.2.2.2.2.1
        have g6 := (cells8 (heap_below HGD4.out ((Gr.drew w4).trans hw'))).2.2.2.2.2.2.1
        simp only [HU.out] at g5
        simp only [HR.out] at g6
        have cu := cell_gr ((Gr.drew w4).trans hw') HCU.out
        have s1 := run_string_of (P := Try.prog) 22 9 5 Try.underlying22 Try.underlying5 Try.underlying9 (HVU.out.below ((Gr.drew w4).trans hw'))
        have s2 := run_string_of (P := Try.prog) 22 9 5 Try.underlying22 Try.underlying5 Try.underlying9 (HD4.out.u.below ((Gr.drew w4).trans hw'))
        go_simp
        with_reducible rfl
      simp only [Act.put, List.setIfInBounds_toArray, List.set_cons_zero, List.set_cons_succ]
      -- 10: slot 55
      refine wpG_take preGr (i := 10) (v := ?_) (by kernel_rfl) (some 55) (by kernel_rfl) rfl (by kernel_rfl) (by kernel_rfl) (by kernel_rfl) (fun _ _ _ h => h) (by rfl) (fun w' hw' => ?_) rfl ?_
      rotate_left
      · have g3 := (cells8 (heap_below HGD4.out ((Gr.drew w4).trans hw'))).2.2.2.1
        have g4 := (cells8 (heap_below HGD4.out ((Gr.drew w4).trans hw'))).2.2.2.2.1
        have g5 := (cells8 (heap_below HGD4.out ((Gr.drew w4).trans hw'))).2.2.2.2.2.1
        have g6 := (cells8 (heap_below HGD4.out ((Gr.drew w4).trans hw'))).2.2.2.2.2.2.1
        simp only [HU.out] at g5
        simp only [HR.out] at g6
        have cu := cell_gr ((Gr.drew w4).trans hw') HCU.out
        have s1 := run_string_of (P := Try.prog) 22 9 5 Try.underlying22 Try.underlying5 Try.underlying9 (HVU.out.below ((Gr.drew w4).trans hw'))
        have s2 := run_string_of (P := Try.prog) 22 9 5 Try.underlying22 Try.underlying5 Try.underlying9 (HD4.out.u.below ((Gr.drew w4).trans hw'))
        go_simp
        with_reducible rfl
      simp only [Act.put, List.setIfInBounds_toArray, List.set_cons_zero, List.set_cons_succ]
      -- 11: slot 56
      refine wpG_take preGr (i := 11) (v := ?_) (by kernel_rfl) (some 56) (by kernel_rfl) rfl (by kernel_rfl) (by kernel_rfl) (by kernel_rfl) (fun _ _ _ h => h) (by rfl) (fun w' hw' => ?_) rfl ?_
      rotate_left
      · have g3 := (cells8 (heap_below HGD4.out ((Gr.drew w4).trans hw'))).2.2.2.1
        have g4 := (cells8 (heap_below HGD4.out ((Gr.drew w4).trans hw'))).2.2.2.2.1
        have g5 := (cells8 (heap_below HGD4.out ((Gr.drew w4).trans hw'))).2.2.2.2.2.1
        have g6 := (cells8 (heap_below HGD4.out ((Gr.drew w4).trans hw'))).2.2.2.2.2.2.1
        simp only [HU.out] at g5
        simp only [HR.out] at g6
        have cu := cell_gr ((Gr.drew w4).trans hw') HCU.out
        have s1 := run_string_of (P := Try.prog) 22 9 5 Try.underlying22 Try.underlying5 Try.underlying9 (HVU.out.below ((Gr.drew w4).trans hw'))
        have s2 := run_string_of (P := Try.prog) 22 9 5 Try.underlying22 Try.underlying5 Try.underlying9 (HD4.out.u.below ((Gr.drew w4).trans hw'))
        go_simp
        with_reducible rfl
      simp only [Act.put, List.setIfInBounds_toArray, List.set_cons_zero, List.set_cons_succ]
      -- 12: slot 57
      refine wpG_take preGr (i := 12) (v := ?_) (by kernel_rfl) (some 57) (by kernel_rfl) rfl (by kernel_rfl) (by kernel_rfl) (by kernel_rfl) (fun _ _ _ h => h) (by rfl) (fun w' hw' => ?_) rfl ?_
      rotate_left
      · have g3 := (cells8 (heap_below HGD4.out ((Gr.drew w4).trans hw'))).2.2.2.1
        have g4 := (cells8 (heap_below HGD4.out ((Gr.drew w4).trans hw'))).2.2.2.2.1
        have g5 := (cells8 (heap_below HGD4.out ((Gr.drew w4).trans hw'))).2.2.2.2.2.1
        have g6 := (cells8 (heap_below HGD4.out ((Gr.drew w4).trans hw'))).2.2.2.2.2.2.1
        simp only [HU.out] at g5
        simp only [HR.out] at g6
        have cu := cell_gr ((Gr.drew w4).trans hw') HCU.out
        have s1 := run_string_of (P := Try.prog) 22 9 5 Try.underlying22 Try.underlying5 Try.underlying9 (HVU.out.below ((Gr.drew w4).trans hw'))
        have s2 := run_string_of (P := Try.prog) 22 9 5 Try.underlying22 Try.underlying5 Try.underlying9 (HD4.out.u.below ((Gr.drew w4).trans hw'))
        go_simp
        with_reducible rfl
      simp only [Act.put, List.setIfInBounds_toArray, List.set_cons_zero, List.set_cons_succ]
      -- 13: slot 58
      refine wpG_take preGr (i := 13) (v := ?_) (by kernel_rfl) (some 58) (by kernel_rfl) rfl (by kernel_rfl) (by kernel_rfl) (by kernel_rfl) (fun _ _ _ h => h) (by rfl) (fun w' hw' => ?_) rfl ?_
      rotate_left
      · have g3 := (cells8 (heap_below HGD4.out ((Gr.drew w4).trans hw'))).2.2.2.1
        have g4 := (cells8 (heap_below HGD4.out ((Gr.drew w4).trans hw'))).2.2.2.2.1
        have g5 := (cells8 (heap_below HGD4.out ((Gr.drew w4).trans hw'))).2.2.2.2.2.1
        have g6 := (cells8 (heap_below HGD4.out ((Gr.drew w4).trans hw'))).2.2.2.2.2.2.1
        simp only [HU.out] at g5
        simp only [HR.out] at g6
        have cu := cell_gr ((Gr.drew w4).trans hw') HCU.out
        have s1 := run_string_of (P := Try.prog) 22 9 5 Try.underlying22 Try.underlying5 Try.underlying9 (HVU.out.below ((Gr.drew w4).trans hw'))
        have s2 := run_string_of (P := Try.prog) 22 9 5 Try.underlying22 Try.underlying5 Try.underlying9 (HD4.out.u.below ((Gr.drew w4).trans hw'))
        go_simp
        with_reducible rfl
      simp only [Act.put, List.setIfInBounds_toArray, List.set_cons_zero, List.set_cons_succ]
      -- 14: slot 59
      refine wpG_take preGr (i := 14) (v := ?_) (by kernel_rfl) (some 59) (by kernel_rfl) rfl (by kernel_rfl) (by kernel_rfl) (by kernel_rfl) (fun _ _ _ h => h) (by rfl) (fun w' hw' => ?_) rfl ?_
      rotate_left
      · have g3 := (cells8 (heap_below HGD4.out ((Gr.drew w4).trans hw'))).2.2.2.1
        have g4 := (cells8 (heap_below HGD4.out ((Gr.drew w4).trans hw'))).2.2.2.2.1
        have g5 := (cells8 (heap_below HGD4.out ((Gr.drew w4).trans hw'))).2.2.2.2.2.1
        have g6 := (cells8 (heap_below HGD4.out ((Gr.drew w4).trans hw'))).2.2.2.2.2.2.1
        simp only [HU.out] at g5
        simp only [HR.out] at g6
        have cu := cell_gr ((Gr.drew w4).trans hw') HCU.out
        have s1 := run_string_of (P := Try.prog) 22 9 5 Try.underlying22 Try.underlying5 Try.underlying9 (HVU.out.below ((Gr.drew w4).trans hw'))
        have s2 := run_string_of (P := Try.prog) 22 9 5 Try.underlying22 Try.underlying5 Try.underlying9 (HD4.out.u.below ((Gr.drew w4).trans hw'))
        go_simp
        with_reducible rfl
      simp only [Act.put, List.setIfInBounds_toArray, List.set_cons_zero, List.set_cons_succ]
      -- 15: slot 60
      refine wpG_take preGr (i := 15) (v := ?_) (by kernel_rfl) (some 60) (by kernel_rfl) rfl (by kernel_rfl) (by kernel_rfl) (by kernel_rfl) (fun _ _ _ h => h) (by rfl) (fun w' hw' => ?_) rfl ?_
      rotate_left
      · have g3 := (cells8 (heap_below HGD4.out ((Gr.drew w4).trans hw'))).2.2.2.1
        have g4 := (cells8 (heap_below HGD4.out ((Gr.drew w4).trans hw'))).2.2.2.2.1
        have g5 := (cells8 (heap_below HGD4.out ((Gr.drew w4).trans hw'))).2.2.2.2.2.1
        have g6 := (cells8 (heap_below HGD4.out ((Gr.drew w4).trans hw'))).2.2.2.2.2.2.1
        simp only [HU.out] at g5
        simp only [HR.out] at g6
        have cu := cell_gr ((Gr.drew w4).trans hw') HCU.out
        have s1 := run_string_of (P := Try.prog) 22 9 5 Try.underlying22 Try.underlying5 Try.underlying9 (HVU.out.below ((Gr.drew w4).trans hw'))
        have s2 := run_string_of (P := Try.prog) 22 9 5 Try.underlying22 Try.underlying5 Try.underlying9 (HD4.out.u.below ((Gr.drew w4).trans hw'))
        go_simp
        with_reducible rfl
      simp only [Act.put, List.setIfInBounds_toArray, List.set_cons_zero, List.set_cons_succ]
      -- 16: slot 61
      refine wpG_take preGr (i := 16) (v := ?_) (by kernel_rfl) (some 61) (by kernel_rfl) rfl (by kernel_rfl) (by kernel_rfl) (by kernel_rfl) (fun _ _ _ h => h) (by rfl) (fun w' hw' => ?_) rfl ?_
      rotate_left
      · have g3 := (cells8 (heap_below HGD4.out ((Gr.drew w4).trans hw'))).2.2.2.1
        have g4 := (cells8 (heap_below HGD4.out ((Gr.drew w4).trans hw'))).2.2.2.2.1
        have g5 := (cells8 (heap_below HGD4.out ((Gr.drew w4).trans hw'))).2.2.2.2.2.1
        have g6 := (cells8 (heap_below HGD4.out ((Gr.drew w4).trans hw'))).2.2.2.2.2.2.1
        simp only [HU.out] at g5
        simp only [HR.out] at g6
        have cu := cell_gr ((Gr.drew w4).trans hw') HCU.out
        have s1 := run_string_of (P := Try.prog) 22 9 5 Try.underlying22 Try.underlying5 Try.underlying9 (HVU.out.below ((Gr.drew w4).trans hw'))
        have s2 := run_string_of (P := Try.prog) 22 9 5 Try.underlying22 Try.underlying5 Try.underlying9 (HD4.out.u.below ((Gr.drew w4).trans hw'))
        go_simp
        with_reducible rfl
      simp only [Act.put, List.setIfInBounds_toArray, List.set_cons_zero, List.set_cons_succ]
      -- 17: slot 62
      refine wpG_take preGr (i := 17) (v := ?_) (by kernel_rfl) (some 62) (by kernel_rfl) rfl (by kernel_rfl) (by kernel_rfl) (by kernel_rfl) (fun _ _ _ h => h) (by rfl) (fun w' hw' => ?_) rfl ?_
      rotate_left
      · have g3 := (cells8 (heap_below HGD4.out ((Gr.drew w4).trans hw'))).2.2.2.1
        have g4 := (cells8 (heap_below HGD4.out ((Gr.drew w4).trans hw'))).2.2.2.2.1
        have g5 := (cells8 (heap_below HGD4.out ((Gr.drew w4).trans hw'))).2.2.2.2.2.1
        have g6 := (cells8 (heap_below HGD4.out ((Gr.drew w4).trans hw'))).2.2.2.2.2.2.1
        simp only [HU.out] at g5
        simp only [HR.out] at g6
        have cu := cell_gr ((Gr.drew w4).trans hw') HCU.out
        have s1 := run_string_of (P := Try.prog) 22 9 5 Try.underlying22 Try.underlying5 Try.underlying9 (HVU.out.below ((Gr.drew w4).trans hw'))
        have s2 := run_string_of (P := Try.prog) 22 9 5 Try.underlying22 Try.underlying5 Try.underlying9 (HD4.out.u.below ((Gr.drew w4).trans hw'))
        go_simp
        with_reducible rfl
      simp only [Act.put, List.setIfInBounds_toArray, List.set_cons_zero, List.set_cons_succ]
      refine wpG_pass preGr (i := 18) (by kernel_rfl) (some 63) (by kernel_rfl) rfl (by kernel_rfl) (by kernel_rfl) (by kernel_rfl) (fun _ _ _ h => h) (by rfl) rfl ?_
      simp only [Act.put, List.setIfInBounds_toArray, List.set_cons_zero, List.set_cons_succ]
      refine wpG_pass preGr (i := 19) (by kernel_rfl) (some 64) (by kernel_rfl) rfl (by kernel_rfl) (by kernel_rfl) (by kernel_rfl) (fun _ _ _ h => h) (by rfl) rfl ?_
      simp only [Act.put, List.setIfInBounds_toArray, List.set_cons_zero, List.set_cons_succ]
      refine wpG_pass preGr (i := 20) (by kernel_rfl) (some 65) (by kernel_rfl) rfl (by kernel_rfl) (by kernel_rfl) (by kernel_rfl) (fun _ _ _ h => h) (by rfl) rfl ?_
      simp only [Act.put, List.setIfInBounds_toArray, List.set_cons_zero, List.set_cons_succ]
      refine wpG_pass preGr (i := 21) (by kernel_rfl) (some 66) (by kernel_rfl) rfl (by kernel_rfl) (by kernel_rfl) (by kernel_rfl) (fun _ _ _ h => h) (by rfl) rfl ?_
      simp only [Act.put, List.setIfInBounds_toArray, List.set_cons_zero, List.set_cons_succ]
      refine wpG_pass preGr (i := 22) (by kernel_rfl) (some 67) (by kernel_rfl) rfl (by kernel_rfl) (by kernel_rfl) (by kernel_rfl) (fun _ _ _ h => h) (by rfl) rfl ?_
      simp only [Act.put, List.setIfInBounds_toArray, List.set_cons_zero, List.set_cons_succ]
      refine wpG_pass preGr (i := 23) (by kernel_rfl) (some 68) (by kernel_rfl) rfl (by kernel_rfl) (by kernel_rfl) (by kernel_rfl) (fun _ _ _ h => h) (by rfl) rfl ?_
      simp only [Act.put, List.setIfInBounds_toArray, List.set_cons_zero, List.set_cons_succ]
      refine wpG_pass preGr (i := 24) (by kernel_rfl) (some 69) (by kernel_rfl) rfl (by kernel_rfl) (by kernel_rfl) (by kernel_rfl) (fun _ _ _ h => h) (by rfl) rfl ?_
      simp only [Act.put, List.setIfInBounds_toArray, List.set_cons_zero, List.set_cons_succ]
      refine wpG_pass preGr (i := 25) (by kernel_rfl) (some 70) (by kernel_rfl) rfl (by kernel_rfl) (by kernel_rfl) (by kernel_rfl) (fun _ _ _ h => h) (by rfl) rfl ?_
      simp only [Act.put, List.setIfInBounds_toArray, List.set_cons_zero, List.set_cons_succ]
      -- 26: slot 71
      refine wpG_take preGr (i := 26) (v := ?_) (by kernel_rfl) (some 71) (by kernel_rfl) rfl (by kernel_rfl) (by kernel_rfl) (by kernel_rfl) (fun _ _ _ h => h) (by rfl) (fun w' hw' => ?_) rfl ?_
      rotate_left
      · have g3 := (cells8 (heap_below HGD4.out ((Gr.drew w4).trans hw'))).2.2.2.1
        have g4 := (cells8 (heap_below HGD4.out ((Gr.drew w4).trans hw'))).2.2.2.2.1
        have g5 := (cells8 (heap_below HGD4.out ((Gr.drew w4).trans hw'))).2.2.2.2.2.1
        have g6 := (cells8 (heap_below HGD4.out ((Gr.drew w4).trans hw'))).2.2.2.2.2.2.1
        simp only [HU.out] at g5
        simp only [HR.out] at g6
        have cu := cell_gr ((Gr.drew w4).trans hw') HCU.out
        have s1 := run_string_of (P := Try.prog) 22 9 5 Try.underlying22 Try.underlying5 Try.underlying9 (HVU.out.below ((Gr.drew w4).trans hw'))
        have s2 := run_string_of (P := Try.prog) 22 9 5 Try.underlying22 Try.underlying5 Try.underlying9 (HD4.out.u.below ((Gr.drew w4).trans hw'))
        go_simp
        with_reducible rfl
      simp only [Act.put, List.setIfInBounds_toArray, List.set_cons_zero, List.set_cons_succ]
      -- 27: slot 72
      refine wpG_take preGr (i := 27) (v := ?_) (by kernel_rfl) (some 72) (by kernel_rfl) rfl (by kernel_rfl) (by kernel_rfl) (by kernel_rfl) (fun _ _ _ h => h) (by rfl) (fun w' hw' => ?_) rfl ?_
      rotate_left
      · have g3 := (cells8 (heap_below HGD4.out ((Gr.drew w4).trans hw'))).2.2.2.1
        have g4 := (cells8 (heap_below HGD4.out ((Gr.drew w4).trans hw'))).2.2.2.2.1
        have g5 := (cells8 (heap_below HGD4.out ((Gr.drew w4).trans hw'))).2.2.2.2.2.1
        have g6 := (cells8 (heap_below HGD4.out ((Gr.drew w4).trans hw'))).2.2.2.2.2.2.1
        simp only [HU.out] at g5
        simp only [HR.out] at g6
        have cu := cell_gr ((Gr.drew w4).trans hw') HCU.out
        have s1 := run_string_of (P := Try.prog) 22 9 5 Try.underlying22 Try.underlying5 Try.underlying9 (HVU.out.below ((Gr.drew w4).trans hw'))
        have s2 := run_string_of (P := Try.prog) 22 9 5 Try.underlying22 Try.underlying5 Try.underlying9 (HD4.out.u.below ((Gr.drew w4).trans hw'))
        go_simp
        with_reducible rfl
      simp only [Act.put, List.setIfInBounds_toArray, List.set_cons_zero, List.set_cons_succ]
      -- 28: slot 4
      refine wpG_take preGr (i := 28) (v := ?_) (by kernel_rfl) (some 4) (by kernel_rfl) rfl (by kernel_rfl) (by kernel_rfl) (by kernel_rfl) (fun _ _ _ h => h) (by rfl) (fun w' hw' => ?_) rfl ?_
      rotate_left
      · have g3 := (cells8 (heap_below HGD4.out ((Gr.drew w4).trans hw'))).2.2.2.1
        have g4 := (cells8 (heap_below HGD4.out ((Gr.drew w4).trans hw'))).2.2.2.2.1
        have g5 := (cells8 (heap_below HGD4.out ((Gr.drew w4).trans hw'))).2.2.2.2.2.1
        have g6 := (cells8 (heap_below HGD4.out ((Gr.drew w4).trans hw'))).2.2.2.2.2.2.1
        simp only [HU.out] at g5
        simp only [HR.out] at g6
        have cu := cell_gr ((Gr.drew w4).trans hw') HCU.out
        have s1 := run_string_of (P := Try.prog) 22 9 5 Try.underlying22 Try.underlying5 Try.underlying9 (HVU.out.below ((Gr.drew w4).trans hw'))
        have s2 := run_string_of (P := Try.prog) 22 9 5 Try.underlying22 Try.underlying5 Try.underlying9 (HD4.out.u.below ((Gr.drew w4).trans hw'))
        go_simp
        with_reducible rfl
      simp only [Act.put, List.setIfInBounds_toArray, List.set_cons_zero, List.set_cons_succ]
      refine wpG_done (by kernel_rfl) ?_ _
      go_wp2
      go_ret
      exact ⟨by simp, HB4.out.drew⟩
    | true =>
      have hone := HR4.out hr
      rw [hr] at k6 hM'
      obtain rfl : M = 1 := hM'
      have HU := Lib.hid hu
      have HR := Lib.hid hr
      obtain ⟨br, orr, cr, Ar, Lr, Cr, er, hbr, hcr, hvr⟩ := hone
      obtain ⟨rfl, _, rfl⟩ := Value.slice.inj er
      have HCR := Lib.hid hcr
      have HVR := Lib.hid hvr
      clear hu hr hcr hvr
      go_wp2_with fail
      refine wp_region_G 29 Gr (by kernel_rfl) ?_
      -- 0: slot 45
      refine wpG_take preGr (i := 0) (v := ?_) (by kernel_rfl) (some 45) (by kernel_rfl) rfl (by kernel_rfl) (by kernel_rfl) (by kernel_rfl) (fun _ _ _ h => h) (by rfl) (fun w' hw' => ?_) rfl ?_
      rotate_left
      · have g3 := (cells8 (heap_below HGD4.out ((Gr.drew w4).trans hw'))).2.2.2.1
        have g4 := (cells8 (heap_below HGD4.out ((Gr.drew w4).trans hw'))).2.2.2.2.1
        have g5 := (cells8 (heap_below HGD4.out ((Gr.drew w4).trans hw'))).2.2.2.2.2.1
        have g6 := (cells8 (heap_below HGD4.out ((Gr.drew w4).trans hw'))).2.2.2.2.2.2.1
        simp only [HU.out] at g5
        simp only [HR.out] at g6
        have cu := cell_gr ((Gr.drew w4).trans hw') HCU.out
        have s1 := run_string_of (P := Try.prog) 22 9 5 Try.underlying22 Try.underlying5 Try.underlying9 (HVU.out.below ((Gr.drew w4).trans hw'))
        have s2 := run_string_of (P := Try.prog) 22 9 5 Try.underlying22 Try.underlying5 Try.underlying9 (HD4.out.u.below ((Gr.drew w4).trans hw'))
        have cr := cell_gr ((Gr.drew w4).trans hw') HCR.out
        have s3 := run_string_of (P := Try.prog) 22 9 5 Try.underlying22 Try.underlying5 Try.underlying9 (HVR.out.below ((Gr.drew w4).trans hw'))
        have s4 := run_string_of (P := Try.prog) 22 9 5 Try.underlying22 Try.underlying5 Try.underlying9 (HD4.out.r.below ((Gr.drew w4).trans hw'))
        go_simp
        with_reducible rfl
      simp only [Act.put, List.setIfInBounds_toArray, List.set_cons_zero, List.set_cons_succ]
      -- 1: slot 46
      refine wpG_take preGr (i := 1) (v := ?_) (by kernel_rfl) (some 46) (by kernel_rfl) rfl (by kernel_rfl) (by kernel_rfl) (by kernel_rfl) (fun _ _ _ h => h) (by rfl) (fun w' hw' => ?_) rfl ?_
      rotate_left
      · have g3 := (cells8 (heap_below HGD4.out ((Gr.drew w4).trans hw'))).2.2.2.1
        have g4 := (cells8 (heap_below HGD4.out ((Gr.drew w4).trans hw'))).2.2.2.2.1
        have g5 := (cells8 (heap_below HGD4.out ((Gr.drew w4).trans hw'))).2.2.2.2.2.1
        have g6 := (cells8 (heap_below HGD4.out ((Gr.drew w4).trans hw'))).2.2.2.2.2.2.1
        simp only [HU.out] at g5
        simp only [HR.out] at g6
        have cu := cell_gr ((Gr.drew w4).trans hw') HCU.out
        have s1 := run_string_of (P := Try.prog) 22 9 5 Try.underlying22 Try.underlying5 Try.underlying9 (HVU.out.below ((Gr.drew w4).trans hw'))
        have s2 := run_string_of (P := Try.prog) 22 9 5 Try.underlying22 Try.underlying5 Try.underlying9 (HD4.out.u.below ((Gr.drew w4).trans hw'))
        have cr := cell_gr ((Gr.drew w4).trans hw') HCR.out
        have s3 := run_string_of (P := Try.prog) 22 9 5 Try.underlying22 Try.underlying5 Try.underlying9 (HVR.out.below ((Gr.drew w4).trans hw'))
        have s4 := run_string_of (P := Try.prog) 22 9 5 Try.underlying22 Try.underlying5 Try.underlying9 (HD4.out.r.below ((Gr.drew w4).trans hw'))
        go_simp
        with_reducible rfl
      simp only [Act.put, List.setIfInBounds_toArray, List.set_cons_zero, List.set_cons_succ]
      -- 2: slot 47
      refine wpG_take preGr (i := 2) (v := ?_) (by kernel_rfl) (some 47) (by kernel_rfl) rfl (by kernel_rfl) (by kernel_rfl) (by kernel_rfl) (fun _ _ _ h => h) (by rfl) (fun w' hw' => ?_) rfl ?_
      rotate_left
      · have g3 := (cells8 (heap_below HGD4.out ((Gr.drew w4).trans hw'))).2.2.2.1
        have g4 := (cells8 (heap_below HGD4.out ((Gr.drew w4).trans hw'))).2.2.2.2.1
        have g5 := (cells8 (heap_below HGD4.out ((Gr.drew w4).trans hw'))).2.2.2.2.2.1
        have g6 := (cells8 (heap_below HGD4.out ((Gr.drew w4).trans hw'))).2.2.2.2.2.2.1
        simp only [HU.out] at g5
        simp only [HR.out] at g6
        have cu := cell_gr ((Gr.drew w4).trans hw') HCU.out
        have s1 := run_string_of (P := Try.prog) 22 9 5 Try.underlying22 Try.underlying5 Try.underlying9 (HVU.out.below ((Gr.drew w4).trans hw'))
        have s2 := run_string_of (P := Try.prog) 22 9 5 Try.underlying22 Try.underlying5 Try.underlying9 (HD4.out.u.below ((Gr.drew w4).trans hw'))
        have cr := cell_gr ((Gr.drew w4).trans hw') HCR.out
        have s3 := run_string_of (P := Try.prog) 22 9 5 Try.underlying22 Try.underlying5 Try.underlying9 (HVR.out.below ((Gr.drew w4).trans hw'))
        have s4 := run_string_of (P := Try.prog) 22 9 5 Try.underlying22 Try.underlying5 Try.underlying9 (HD4.out.r.below ((Gr.drew w4).trans hw'))
        go_simp
        with_reducible rfl
      simp only [Act.put, List.setIfInBounds_toArray, List.set_cons_zero, List.set_cons_succ]
      -- 3: slot 48
      refine wpG_take preGr (i := 3) (v := ?_) (by kernel_rfl) (some 48) (by kernel_rfl) rfl (by kernel_rfl) (by kernel_rfl) (by kernel_rfl) (fun _ _ _ h => h) (by rfl) (fun w' hw' => ?_) rfl ?_
      rotate_left
      · have g3 := (cells8 (heap_below HGD4.out ((Gr.drew w4).trans hw'))).2.2.2.1
        have g4 := (cells8 (heap_below HGD4.out ((Gr.drew w4).trans hw'))).2.2.2.2.1
        have g5 := (cells8 (heap_below HGD4.out ((Gr.drew w4).trans hw'))).2.2.2.2.2.1
        have g6 := (cells8 (heap_below HGD4.out ((Gr.drew w4).trans hw'))).2.2.2.2.2.2.1
        simp only [HU.out] at g5
        simp only [HR.out] at g6
        have cu := cell_gr ((Gr.drew w4).trans hw') HCU.out
        have s1 := run_string_of (P := Try.prog) 22 9 5 Try.underlying22 Try.underlying5 Try.underlying9 (HVU.out.below ((Gr.drew w4).trans hw'))
        have s2 := run_string_of (P := Try.prog) 22 9 5 Try.underlying22 Try.underlying5 Try.underlying9 (HD4.out.u.below ((Gr.drew w4).trans hw'))
        have cr := cell_gr ((Gr.drew w4).trans hw') HCR.out
        have s3 := run_string_of (P := Try.prog) 22 9 5 Try.underlying22 Try.underlying5 Try.underlying9 (HVR.out.below ((Gr.drew w4).trans hw'))
        have s4 := run_string_of (P := Try.prog) 22 9 5 Try.underlying22 Try.underlying5 Try.underlying9 (HD4.out.r.below ((Gr.drew w4).trans hw'))
        go_simp
        with_reducible rfl
      simp only [Act.put, List.setIfInBounds_toArray, List.set_cons_zero, List.set_cons_succ]
      -- 4: slot 49
      refine wpG_take preGr (i := 4) (v := ?_) (by kernel_rfl) (some 49) (by kernel_rfl) rfl (by kernel_rfl) (by kernel_rfl) (by kernel_rfl) (fun _ _ _ h => h) (by rfl) (fun w' hw' => ?_) rfl ?_
      rotate_left
      · have g3 := (cells8 (heap_below HGD4.out ((Gr.drew w4).trans hw'))).2.2.2.1
        have g4 := (cells8 (heap_below HGD4.out ((Gr.drew w4).trans hw'))).2.2.2.2.1
        have g5 := (cells8 (heap_below HGD4.out ((Gr.drew w4).trans hw'))).2.2.2.2.2.1
        have g6 := (cells8 (heap_below HGD4.out ((Gr.drew w4).trans hw'))).2.2.2.2.2.2.1
        simp only [HU.out] at g5
        simp only [HR.out] at g6
        have cu := cell_gr ((Gr.drew w4).trans hw') HCU.out
        have s1 := run_string_of (P := Try.prog) 22 9 5 Try.underlying22 Try.underlying5 Try.underlying9 (HVU.out.below ((Gr.drew w4).trans hw'))
        have s2 := run_string_of (P := Try.prog) 22 9 5 Try.underlying22 Try.underlying5 Try.underlying9 (HD4.out.u.below ((Gr.drew w4).trans hw'))
        have cr := cell_gr ((Gr.drew w4).trans hw') HCR.out
        have s3 := run_string_of (P := Try.prog) 22 9 5 Try.underlying22 Try.underlying5 Try.underlying9 (HVR.out.below ((Gr.drew w4).trans hw'))
        have s4 := run_string_of (P := Try.prog) 22 9 5 Try.underlying22 Try.underlying5 Try.underlying9 (HD4.out.r.below ((Gr.drew w4).trans hw'))
        go_simp
        with_reducible rfl
      simp only [Act.put, List.setIfInBounds_toArray, List.set_cons_zero, List.set_cons_succ]
      -- 5: slot 50
      refine wpG_take preGr (i := 5) (v := ?_) (by kernel_rfl) (some 50) (by kernel_rfl) rfl (by kernel_rfl) (by kernel_rfl) (by kernel_rfl) (fun _ _ _ h => h) (by rfl) (fun w' hw' => ?_) rfl ?_
      rotate_left
      · have g3 := (cells8 (heap_below HGD4.out ((Gr.drew w4).trans hw'))).2.2.2.1
        have g4 := (cells8 (heap_below HGD4.out ((Gr.drew w4).trans hw'))).2.2.2.2.1
        have g5 := (cells8 (heap_below HGD4.out ((Gr.drew w4).trans hw'))).2.2.2.2.2.1
        have g6 := (cells8 (heap_below HGD4.out ((Gr.drew w4).trans hw'))).2.2.2.2.2.2.1
        simp only [HU.out] at g5
        simp only [HR.out] at g6
        have cu := cell_gr ((Gr.drew w4).trans hw') HCU.out
        have s1 := run_string_of (P := Try.prog) 22 9 5 Try.underlying22 Try.underlying5 Try.underlying9 (HVU.out.below ((Gr.drew w4).trans hw'))
        have s2 := run_string_of (P := Try.prog) 22 9 5 Try.underlying22 Try.underlying5 Try.underlying9 (HD4.out.u.below ((Gr.drew w4).trans hw'))
        have cr := cell_gr ((Gr.drew w4).trans hw') HCR.out
        have s3 := run_string_of (P := Try.prog) 22 9 5 Try.underlying22 Try.underlying5 Try.underlying9 (HVR.out.below ((Gr.drew w4).trans hw'))
        have s4 := run_string_of (P := Try.prog) 22 9 5 Try.underlying22 Try.underlying5 Try.underlying9 (HD4.out.r.below ((Gr.drew w4).trans hw'))
        go_simp
        with_reducible rfl
      simp only [Act.put, List.setIfInBounds_toArray, List.set_cons_zero, List.set_cons_succ]
      -- 6: slot 51
      refine wpG_take preGr (i := 6) (v := ?_) (by kernel_rfl) (some 51) (by kernel_rfl) rfl (by kernel_rfl) (by kernel_rfl) (by kernel_rfl) (fun _ _ _ h => h) (by rfl) (fun w' hw' => ?_) rfl ?_
      rotate_left
      · have g3 := (cells8 (heap_below HGD4.out ((Gr.drew w4).trans hw'))).2.2.2.1
        have g4 := (cells8 (heap_below HGD4.out ((Gr.drew w4).trans hw'))).2.2.2.2.1
        have g5 := (cells8 (heap_below HGD4.out ((Gr.drew w4).trans hw'))).2.2.2.2.2.1
        have g6 := (cells8 (heap_below HGD4.out ((Gr.drew w4).trans hw'))).2.2.2.2.2.2.1
        simp only [HU.out] at g5
        simp only [HR.out] at g6
        have cu := cell_gr ((Gr.drew w4).trans hw') HCU.out
        have s1 := run_string_of (P := Try.prog) 22 9 5 Try.underlying22 Try.underlying5 Try.underlying9 (HVU.out.below ((Gr.drew w4).trans hw'))
        have s2 := run_string_of (P := Try.prog) 22 9 5 Try.underlying22 Try.underlying5 Try.underlying9 (HD4.out.u.below ((Gr.drew w4).trans hw'))
        have cr := cell_gr ((Gr.drew w4).trans hw') HCR.out
        have s3 := run_string_of (P := Try.prog) 22 9 5 Try.underlying22 Try.underlying5 Try.underlying9 (HVR.out.below ((Gr.drew w4).trans hw'))
        have s4 := run_string_of (P := Try.prog) 22 9 5 Try.underlying22 Try.underlying5 Try.underlying9 (HD4.out.r.below ((Gr.drew w4).trans hw'))
        go_simp
        with_reducible rfl
      simp only [Act.put, List.setIfInBounds_toArray, List.set_cons_zero, List.set_cons_succ]
      -- 7: slot 52
      refine wpG_take preGr (i := 7) (v := ?_) (by kernel_rfl) (some 52) (by kernel_rfl) rfl (by kernel_rfl) (by kernel_rfl) (by kernel_rfl) (fun _ _ _ h => h) (by rfl) (fun w' hw' => ?_) rfl ?_
      rotate_left
      · have g3 := (cells8 (heap_below HGD4.out ((Gr.drew w4).trans hw'))).2.2.2.1
        have g4 := (cells8 (heap_below HGD4.out ((Gr.drew w4).trans hw'))).2.2.2.2.1
        have g5 := (cells8 (heap_below HGD4.out ((Gr.drew w4).trans hw'))).2.2.2.2.2.1
        have g6 := (cells8 (heap_below HGD4.out ((Gr.drew w4).trans hw'))).2.2.2.2.2.2.1
        simp only [HU.out] at g5
        simp only [HR.out] at g6
        have cu := cell_gr ((Gr.drew w4).trans hw') HCU.out
        have s1 := run_string_of (P := Try.prog) 22 9 5 Try.underlying22 Try.underlying5 Try.underlying9 (HVU.out.below ((Gr.drew w4).trans hw'))
        have s2 := run_string_of (P := Try.prog) 22 9 5 Try.underlying22 Try.underlying5 Try.underlying9 (HD4.out.u.below ((Gr.drew w4).trans hw'))
        have cr := cell_gr ((Gr.drew w4).trans hw') HCR.out
        have s3 := run_string_of (P := Try.prog) 22 9 5 Try.underlying22 Try.underlying5 Try.underlying9 (HVR.out.below ((Gr.drew w4).trans hw'))
        have s4 := run_string_of (P := Try.prog) 22 9 5 Try.underlying22 Try.underlying5 Try.underlying9 (HD4.out.r.below ((Gr.drew w4).trans hw'))
        go_simp
        with_reducible rfl
      simp only [Act.put, List.setIfInBounds_toArray, List.set_cons_zero, List.set_cons_succ]
      -- 8: slot 53
      refine wpG_take preGr (i := 8) (v := ?_) (by kernel_rfl) (some 53) (by kernel_rfl) rfl (by kernel_rfl) (by kernel_rfl) (by kernel_rfl) (fun _ _ _ h => h) (by rfl) (fun w' hw' => ?_) rfl ?_
      rotate_left
      · have g3 := (cells8 (heap_below HGD4.out ((Gr.drew w4).trans hw'))).2.2.2.1
        have g4 := (cells8 (heap_below HGD4.out ((Gr.drew w4).trans hw'))).2.2.2.2.1
        have g5 := (cells8 (heap_below HGD4.out ((Gr.drew w4).trans hw'))).2.2.2.2.2.1
        have g6 := (cells8 (heap_below HGD4.out ((Gr.drew w4).trans hw'))).2.2.2.2.2.2.1
        simp only [HU.out] at g5
        simp only [HR.out] at g6
        have cu := cell_gr ((Gr.drew w4).trans hw') HCU.out
        have s1 := run_string_of (P := Try.prog) 22 9 5 Try.underlying22 Try.underlying5 Try.underlying9 (HVU.out.below ((Gr.drew w4).trans hw'))
        have s2 := run_string_of (P := Try.prog) 22 9 5 Try.underlying22 Try.underlying5 Try.underlying9 (HD4.out.u.below ((Gr.drew w4).trans hw'))
        have cr := cell_gr ((Gr.drew w4).trans hw') HCR.out
        have s3 := run_string_of (P := Try.prog) 22 9 5 Try.underlying22 Try.underlying5 Try.underlying9 (HVR.out.below ((Gr.drew w4).trans hw'))
        have s4 := run_string_of (P := Try.prog) 22 9 5 Try.underlying22 Try.underlying5 Try.underlying9 (HD4.out.r.below ((Gr.drew w4).trans hw'))
        go_simp
        with_reducible rfl
      simp only [Act.put, List.setIfInBounds_toArray, List.set_cons_zero, List.set_cons_succ]
      -- 9: slot 54
      refine wpG_take preGr (i := 9) (v := ?_) (by kernel_rfl) (some 54) (by kernel_rfl) rfl (by kernel_rfl) (by kernel_rfl) (by kernel_rfl) (fun _ _ _ h => h) (by rfl) (fun w' hw' => ?_) rfl ?_
      rotate_left
      · have g3 := (cells8 (heap_below HGD4.out ((Gr.drew w4).trans hw'))).2.2.2.1
        have g4 := (cells8 (heap_below HGD4.out ((Gr.drew w4).trans hw'))).2.2.2.2.1
        have g5 := (cells8 (heap_below HGD4.out ((Gr.drew w4).trans hw'))).2.2.2.2.2.1
        have g6 := (cells8 (heap_below HGD4.out ((Gr.drew w4).trans hw'))).2.2.2.2.2.2.1
        simp only [HU.out] at g5
        simp only [HR.out] at g6
        have cu := cell_gr ((Gr.drew w4).trans hw') HCU.out
        have s1 := run_string_of (P := Try.prog) 22 9 5 Try.underlying22 Try.underlying5 Try.underlying9 (HVU.out.below ((Gr.drew w4).trans hw'))
        have s2 := run_string_of (P := Try.prog) 22 9 5 Try.underlying22 Try.underlying5 Try.underlying9 (HD4.out.u.below ((Gr.drew w4).trans hw'))
        have cr := cell_gr ((Gr.drew w4).trans hw') HCR.out
        have s3 := run_string_of (P := Try.prog) 22 9 5 Try.underlying22 Try.underlying5 Try.underlying9 (HVR.out.below ((Gr.drew w4).trans hw'))
        have s4 := run_string_of (P := Try.prog) 22 9 5 Try.underlying22 Try.underlying5 Try.underlying9 (HD4.out.r.below ((Gr.drew w4).trans hw'))
        go_simp
        with_reducible rfl
      simp only [Act.put, List.setIfInBounds_toArray, List.set_cons_zero, List.set_cons_succ]
      -- 10: slot 55
      refine wpG_take preGr (i := 10) (v := ?_) (by kernel_rfl) (some 55) (by kernel_rfl) rfl (by kernel_rfl) (by kernel_rfl) (by kernel_rfl) (fun _ _ _ h => h) (by rfl) (fun w' hw' => ?_) rfl ?_
      rotate_left
      · have g3 := (cells8 (heap_below HGD4.out ((Gr.drew w4).trans hw'))).2.2.2.1
        have g4 := (cells8 (heap_below HGD4.out ((Gr.drew w4).trans hw'))).2.2.2.2.1
        have g5 := (cells8 (heap_below HGD4.out ((Gr.drew w4).trans hw'))).2.2.2.2.2.1
        have g6 := (cells8 (heap_below HGD4.out ((Gr.drew w4).trans hw'))).2.2.2.2.2.2.1
        simp only [HU.out] at g5
        simp only [HR.out] at g6
        have cu := cell_gr ((Gr.drew w4).trans hw') HCU.out
        have s1 := run_string_of (P := Try.prog) 22 9 5 Try.underlying22 Try.underlying5 Try.underlying9 (HVU.out.below ((Gr.drew w4).trans hw'))
        have s2 := run_string_of (P := Try.prog) 22 9 5 Try.underlying22 Try.underlying5 Try.underlying9 (HD4.out.u.below ((Gr.drew w4).trans hw'))
        have cr := cell_gr ((Gr.drew w4).trans hw') HCR.out
        have s3 := run_string_of (P := Try.prog) 22 9 5 Try.underlying22 Try.underlying5 Try.underlying9 (HVR.out.below ((Gr.drew w4).trans hw'))
        have s4 := run_string_of (P := Try.prog) 22 9 5 Try.underlying22 Try.underlying5 Try.underlying9 (HD4.out.r.below ((Gr.drew w4).trans hw'))
        go_simp
        with_reducible rfl
      simp only [Act.put, List.setIfInBounds_toArray, List.set_cons_zero, List.set_cons_succ]
      -- 11: slot 56
      refine wpG_take preGr (i := 11) (v := ?_) (by kernel_rfl) (some 56) (by kernel_rfl) rfl (by kernel_rfl) (by kernel_rfl) (by kernel_rfl) (fun _ _ _ h => h) (by rfl) (fun w' hw' => ?_) rfl ?_
      rotate_left
      · have g3 := (cells8 (heap_below HGD4.out ((Gr.drew w4).trans hw'))).2.2.2.1
        have g4 := (cells8 (heap_below HGD4.out ((Gr.drew w4).trans hw'))).2.2.2.2.1
        have g5 := (cells8 (heap_below HGD4.out ((Gr.drew w4).trans hw'))).2.2.2.2.2.1
        have g6 := (cells8 (heap_below HGD4.out ((Gr.drew w4).trans hw'))).2.2.2.2.2.2.1
        simp only [HU.out] at g5
        simp only [HR.out] at g6
        have cu := cell_gr ((Gr.drew w4).trans hw') HCU.out
        have s1 := run_string_of (P := Try.prog) 22 9 5 Try.underlying22 Try.underlying5 Try.underlying9 (HVU.out.below ((Gr.drew w4).trans hw'))
        have s2 := run_string_of (P := Try.prog) 22 9 5 Try.underlying22 Try.underlying5 Try.underlying9 (HD4.out.u.below ((Gr.drew w4).trans hw'))
        have cr := cell_gr ((Gr.drew w4).trans hw') HCR.out
        have s3 := run_string_of (P := Try.prog) 22 9 5 Try.underlying22 Try.underlying5 Try.underlying9 (HVR.out.below ((Gr.drew w4).trans hw'))
        have s4 := run_string_of (P := Try.prog) 22 9 5 Try.underlying22 Try.underlying5 Try.underlying9 (HD4.out.r.below ((Gr.drew w4).trans hw'))
        go_simp
        with_reducible rfl
      simp only [Act.put, List.setIfInBounds_toArray, List.set_cons_zero, List.set_cons_succ]
      -- 12: slot 57
      refine wpG_take preGr (i := 12) (v := ?_) (by kernel_rfl) (some 57) (by kernel_rfl) rfl (by kernel_rfl) (by kernel_rfl) (by kernel_rfl) (fun _ _ _ h => h) (by rfl) (fun w' hw' => ?_) rfl ?_
      rotate_left
      · have g3 := (cells8 (heap_below HGD4.out ((Gr.drew w4).trans hw'))).2.2.2.1
        have g4 := (cells8 (heap_below HGD4.out ((Gr.drew w4).trans hw'))).2.2.2.2.1
        have g5 := (cells8 (heap_below HGD4.out ((Gr.drew w4).trans hw'))).2.2.2.2.2.1
        have g6 := (cells8 (heap_below HGD4.out ((Gr.drew w4).trans hw'))).2.2.2.2.2.2.1
        simp only [HU.out] at g5
        simp only [HR.out] at g6
        have cu := cell_gr ((Gr.drew w4).trans hw') HCU.out
        have s1 := run_string_of (P := Try.prog) 22 9 5 Try.underlying22 Try.underlying5 Try.underlying9 (HVU.out.below ((Gr.drew w4).trans hw'))
        have s2 := run_string_of (P := Try.prog) 22 9 5 Try.underlying22 Try.underlying5 Try.underlying9 (HD4.out.u.below ((Gr.drew w4).trans hw'))
        have cr := cell_gr ((Gr.drew w4).trans hw') HCR.out
        have s3 := run_string_of (P := Try.prog) 22 9 5 Try.underlying22 Try.underlying5 Try.underlying9 (HVR.out.below ((Gr.drew w4).trans hw'))
        have s4 := run_string_of (P := Try.prog) 22 9 5 Try.underlying22 Try.underlying5 Try.underlying9 (HD4.out.r.below ((Gr.drew w4).trans hw'))
        go_simp
        with_reducible rfl
      simp only [Act.put, List.setIfInBounds_toArray, List.set_cons_zero, List.set_cons_succ]
      -- 13: slot 58
      refine wpG_take preGr (i := 13) (v := ?_) (by kernel_rfl) (some 58) (by kernel_rfl) rfl (by kernel_rfl) (by kernel_rfl) (by kernel_rfl) (fun _ _ _ h => h) (by rfl) (fun w' hw' => ?_) rfl ?_
      rotate_left
      · have g3 := (cells8 (heap_below HGD4.out ((Gr.drew w4).trans hw'))).2.2.2.1
        have g4 := (cells8 (heap_below HGD4.out ((Gr.drew w4).trans hw'))).2.2.2.2.1
        have g5 := (cells8 (heap_below HGD4.out ((Gr.drew w4).trans hw'))).2.2.2.2.2.1
        have g6 := (cells8 (heap_below HGD4.out ((Gr.drew w4).trans hw'))).2.2.2.2.2.2.1
        simp only [HU.out] at g5
        simp only [HR.out] at g6
        have cu := cell_gr ((Gr.drew w4).trans hw') HCU.out
        have s1 := run_string_of (P := Try.prog) 22 9 5 Try.underlying22 Try.underlying5 Try.underlying9 (HVU.out.below ((Gr.drew w4).trans hw'))
        have s2 := run_string_of (P := Try.prog) 22 9 5 Try.underlying22 Try.underlying5 Try.underlying9 (HD4.out.u.below ((Gr.drew w4).trans hw'))
        have cr := cell_gr ((Gr.drew w4).trans hw') HCR.out
        have s3 := run_string_of (P := Try.prog) 22 9 5 Try.underlying22 Try.underlying5 Try.underlying9 (HVR.out.below ((Gr.drew w4).trans hw'))
        have s4 := run_string_of (P := Try.prog) 22 9 5 Try.underlying22 Try.underlying5 Try.underlying9 (HD4.out.r.below ((Gr.drew w4).trans hw'))
        go_simp
        with_reducible rfl
      simp only [Act.put, List.setIfInBounds_toArray, List.set_cons_zero, List.set_cons_succ]
      -- 14: slot 59
      refine wpG_take preGr (i := 14) (v := ?_) (by kernel_rfl) (some 59) (by kernel_rfl) rfl (by kernel_rfl) (by kernel_rfl) (by kernel_rfl) (fun _ _ _ h => h) (by rfl) (fun w' hw' => ?_) rfl ?_
      rotate_left
      · have g3 := (cells8 (heap_below HGD4.out ((Gr.drew w4).trans hw'))).2.2.2.1
        have g4 := (cells8 (heap_below HGD4.out ((Gr.drew w4).trans hw'))).2.2.2.2.1
        have g5 := (cells8 (heap_below HGD4.out ((Gr.drew w4).trans hw'))).2.2.2.2.2.1
        have g6 := (cells8 (heap_below HGD4.out ((Gr.drew w4).trans hw'))).2.2.2.2.2.2.1
        simp only [HU.out] at g5
        simp only [HR.out] at g6
        have cu := cell_gr ((Gr.drew w4).trans hw') HCU.out
        have s1 := run_string_of (P := Try.prog) 22 9 5 Try.underlying22 Try.underlying5 Try.underlying9 (HVU.out.below ((Gr.drew w4).trans hw'))
        have s2 := run_string_of (P := Try.prog) 22 9 5 Try.underlying22 Try.underlying5 Try.underlying9 (HD4.out.u.below ((Gr.drew w4).trans hw'))
        have cr := cell_gr ((Gr.drew w4).trans hw') HCR.out
        have s3 := run_string_of (P := Try.prog) 22 9 5 Try.underlying22 Try.underlying5 Try.underlying9 (HVR.out.below ((Gr.drew w4).trans hw'))
        have s4 := run_string_of (P := Try.prog) 22 9 5 Try.underlying22 Try.underlying5 Try.underlying9 (HD4.out.r.below ((Gr.drew w4).trans hw'))
        go_simp
        with_reducible rfl
      simp only [Act.put, List.setIfInBounds_toArray, List.set_cons_zero, List.set_cons_succ]
      -- 15: slot 60
      refine wpG_take preGr (i := 15) (v := ?_) (by kernel_rfl) (some 60) (by kernel_rfl) rfl (by kernel_rfl) (by kernel_rfl) (by kernel_rfl) (fun _ _ _ h => h) (by rfl) (fun w' hw' => ?_) rfl ?_
      rotate_left
      · have g3 := (cells8 (heap_below HGD4.out ((Gr.drew w4).trans hw'))).2.2.2.1
        have g4 := (cells8 (heap_below HGD4.out ((Gr.drew w4).trans hw'))).2.2.2.2.1
        have g5 := (cells8 (heap_below HGD4.out ((Gr.drew w4).trans hw'))).2.2.2.2.2.1
        have g6 := (cells8 (heap_below HGD4.out ((Gr.drew w4).trans hw'))).2.2.2.2.2.2.1
        simp only [HU.out] at g5
        simp only [HR.out] at g6
        have cu := cell_gr ((Gr.drew w4).trans hw') HCU.out
        have s1 := run_string_of (P := Try.prog) 22 9 5 Try.underlying22 Try.underlying5 Try.underlying9 (HVU.out.below ((Gr.drew w4).trans hw'))
        have s2 := run_string_of (P := Try.prog) 22 9 5 Try.underlying22 Try.underlying5 Try.underlying9 (HD4.out.u.below ((Gr.drew w4).trans hw'))
        have cr := cell_gr ((Gr.drew w4).trans hw') HCR.out
        have s3 := run_string_of (P := Try.prog) 22 9 5 Try.underlying22 Try.underlying5 Try.underlying9 (HVR.out.below ((Gr.drew w4).trans hw'))
        have s4 := run_string_of (P := Try.prog) 22 9 5 Try.underlying22 Try.underlying5 Try.underlying9 (HD4.out.r.below ((Gr.drew w4).trans hw'))
        go_simp
        with_reducible rfl
      simp only [Act.put, List.setIfInBounds_toArray, List.set_cons_zero, List.set_cons_succ]
      -- 16: slot 61
      refine wpG_take preGr (i := 16) (v := ?_) (by kernel_rfl) (some 61) (by kernel_rfl) rfl (by kernel_rfl) (by kernel_rfl) (by kernel_rfl) (fun _ _ _ h => h) (by rfl) (fun w' hw' => ?_) rfl ?_
      rotate_left
      · have g3 := (cells8 (heap_below HGD4.out ((Gr.drew w4).trans hw'))).2.2.2.1
        have g4 := (cells8 (heap_below HGD4.out ((Gr.drew w4).trans hw'))).2.2.2.2.1
        have g5 := (cells8 (heap_below HGD4.out ((Gr.drew w4).trans hw'))).2.2.2.2.2.1
        have g6 := (cells8 (heap_below HGD4.out ((Gr.drew w4).trans hw'))).2.2.2.2.2.2.1
        simp only [HU.out] at g5
        simp only [HR.out] at g6
        have cu := cell_gr ((Gr.drew w4).trans hw') HCU.out
        have s1 := run_string_of (P := Try.prog) 22 9 5 Try.underlying22 Try.underlying5 Try.underlying9 (HVU.out.below ((Gr.drew w4).trans hw'))
        have s2 := run_string_of (P := Try.prog) 22 9 5 Try.underlying22 Try.underlying5 Try.underlying9 (HD4.out.u.below ((Gr.drew w4).trans hw'))
        have cr := cell_gr ((Gr.drew w4).trans hw') HCR.out
        have s3 := run_string_of (P := Try.prog) 22 9 5 Try.underlying22 Try.underlying5 Try.underlying9 (HVR.out.below ((Gr.drew w4).trans hw'))
        have s4 := run_string_of (P := Try.prog) 22 9 5 Try.underlying22 Try.underlying5 Try.underlying9 (HD4.out.r.below ((Gr.drew w4).trans hw'))
        go_simp
        with_reducible rfl
      simp only [Act.put, List.setIfInBounds_toArray, List.set_cons_zero, List.set_cons_succ]
      -- 17: slot 62
      refine wpG_take preGr (i := 17) (v := ?_) (by kernel_rfl) (some 62) (by kernel_rfl) rfl (by kernel_rfl) (by kernel_rfl) (by kernel_rfl) (fun _ _ _ h => h) (by rfl) (fun w' hw' => ?_) rfl ?_
      rotate_left
      · have g3 := (cells8 (heap_below HGD4.out ((Gr.drew w4).trans hw'))).2.2.2.1
        have g4 := (cells8 (heap_below HGD4.out ((Gr.drew w4).trans hw'))).2.2.2.2.1
        have g5 := (cells8 (heap_below HGD4.out ((Gr.drew w4).trans hw'))).2.2.2.2.2.1
        have g6 := (cells8 (heap_below HGD4.out ((Gr.drew w4).trans hw'))).2.2.2.2.2.2.1
        simp only [HU.out] at g5
        simp only [HR.out] at g6
        have cu := cell_gr ((Gr.drew w4).trans hw') HCU.out
        have s1 := run_string_of (P := Try.prog) 22 9 5 Try.underlying22 Try.underlying5 Try.underlying9 (HVU.out.below ((Gr.drew w4).trans hw'))
        have s2 := run_string_of (P := Try.prog) 22 9 5 Try.underlying22 Try.underlying5 Try.underlying9 (HD4.out.u.below ((Gr.drew w4).trans hw'))
        have cr := cell_gr ((Gr.drew w4).trans hw') HCR.out
        have s3 := run_string_of (P := Try.prog) 22 9 5 Try.underlying22 Try.underlying5 Try.underlying9 (HVR.out.below ((Gr.drew w4).trans hw'))
        have s4 := run_string_of (P := Try.prog) 22 9 5 Try.underlying22 Try.underlying5 Try.underlying9 (HD4.out.r.below ((Gr.drew w4).trans hw'))
        go_simp
        with_reducible rfl
      simp only [Act.put, List.setIfInBounds_toArray, List.set_cons_zero, List.set_cons_succ]
      -- 18: slot 63
      refine wpG_take preGr (i := 18) (v := ?_) (by kernel_rfl) (some 63) (by kernel_rfl) rfl (by kernel_rfl) (by kernel_rfl) (by kernel_rfl) (fun _ _ _ h => h) (by rfl) (fun w' hw' => ?_) rfl ?_
      rotate_left
      · have g3 := (cells8 (heap_below HGD4.out ((Gr.drew w4).trans hw'))).2.2.2.1
        have g4 := (cells8 (heap_below HGD4.out ((Gr.drew w4).trans hw'))).2.2.2.2.1
        have g5 := (cells8 (heap_below HGD4.out ((Gr.drew w4).trans hw'))).2.2.2.2.2.1
        have g6 := (cells8 (heap_below HGD4.out ((Gr.drew w4).trans hw'))).2.2.2.2.2.2.1
        simp only [HU.out] at g5
        simp only [HR.out] at g6
        have cu := cell_gr ((Gr.drew w4).trans hw') HCU.out
        have s1 := run_string_of (P := Try.prog) 22 9 5 Try.underlying22 Try.underlying5 Try.underlying9 (HVU.out.below ((Gr.drew w4).trans hw'))
        have s2 := run_string_of (P := Try.prog) 22 9 5 Try.underlying22 Try.underlying5 Try.underlying9 (HD4.out.u.below ((Gr.drew w4).trans hw'))
        have cr := cell_gr ((Gr.drew w4).trans hw') HCR.out
        have s3 := run_string_of (P := Try.prog) 22 9 5 Try.underlying22 Try.underlying5 Try.underlying9 (HVR.out.below ((Gr.drew w4).trans hw'))
        have s4 := run_string_of (P := Try.prog) 22 9 5 Try.underlying22 Try.underlying5 Try.underlying9 (HD4.out.r.below ((Gr.drew w4).trans hw'))
        go_simp
        with_reducible rfl
      simp only [Act.put, List.setIfInBounds_toArray, List.set_cons_zero, List.set_cons_succ]
      -- 19: slot 64
      refine wpG_take preGr (i := 19) (v := ?_) (by kernel_rfl) (some 64) (by kernel_rfl) rfl (by kernel_rfl) (by kernel_rfl) (by kernel_rfl) (fun _ _ _ h => h) (by rfl) (fun w' hw' => ?_) rfl ?_
      rotate_left
      · have g3 := (cells8 (heap_below HGD4.out ((Gr.drew w4).trans hw'))).2.2.2.1
        have g4 := (cells8 (heap_below HGD4.out ((Gr.drew w4).trans hw'))).2.2.2.2.1
        have g5 := (cells8 (heap_below HGD4.out ((Gr.drew w4).trans hw'))).2.2.2.2.2.1
        have g6 := (cells8 (heap_below HGD4.out ((Gr.drew w4).trans hw'))).2.2.2.2.2.2.1
        simp only [HU.out] at g5
        simp only [HR.out] at g6
        have cu := cell_gr ((Gr.drew w4).trans hw') HCU.out
        have s1 := run_string_of (P := Try.prog) 22 9 5 Try.underlying22 Try.underlying5 Try.underlying9 (HVU.out.below ((Gr.drew w4).trans hw'))
        have s2 := run_string_of (P := Try.prog) 22 9 5 Try.underlying22 Try.underlying5 Try.underlying9 (HD4.out.u.below ((Gr.drew w4).trans hw'))
        have cr := cell_gr ((Gr.drew w4).trans hw') HCR.out
        have s3 := run_string_of (P := Try.prog) 22 9 5 Try.underlying22 Try.underlying5 Try.underlying9 (HVR.out.below ((Gr.drew w4).trans hw'))
        have s4 := run_string_of (P := Try.prog) 22 9 5 Try.underlying22 Try.underlying5 Try.underlying9 (HD4.out.r.below ((Gr.drew w4).trans hw'))
        go_simp
        with_reducible rfl
      simp only [Act.put, List.setIfInBounds_toArray, List.set_cons_zero, List.set_cons_succ]
      -- 20: slot 65
      refine wpG_take preGr (i := 20) (v := ?_) (by kernel_rfl) (some 65) (by kernel_rfl) rfl (by kernel_rfl) (by kernel_rfl) (by kernel_rfl) (fun _ _ _ h => h) (by rfl) (fun w' hw' => ?_) rfl ?_
      rotate_left
      · have g3 := (cells8 (heap_below HGD4.out ((Gr.drew w4).trans hw'))).2.2.2.1
        have g4 := (cells8 (heap_below HGD4.out ((Gr.drew w4).trans hw'))).2.2.2.2.1
        have g5 := (cells8 (heap_below HGD4.out ((Gr.drew w4).trans hw'))).2.2.2.2.2.1
        have g6 := (cells8 (heap_below HGD4.out ((Gr.drew w4).trans hw'))).2.2.2.2.2.2.1
        simp only [HU.out] at g5
        simp only [HR.out] at g6
        have cu := cell_gr ((Gr.drew w4).trans hw') HCU.out
        have s1 := run_string_of (P := Try.prog) 22 9 5 Try.underlying22 Try.underlying5 Try.underlying9 (HVU.out.below ((Gr.drew w4).trans hw'))
        have s2 := run_string_of (P := Try.prog) 22 9 5 Try.underlying22 Try.underlying5 Try.underlying9 (HD4.out.u.below ((Gr.drew w4).trans hw'))
        have cr := cell_gr ((Gr.drew w4).trans hw') HCR.out
        have s3 := run_string_of (P := Try.prog) 22 9 5 Try.underlying22 Try.underlying5 Try.underlying9 (HVR.out.below ((Gr.drew w4).trans hw'))
        have s4 := run_string_of (P := Try.prog) 22 9 5 Try.underlying22 Try.underlying5 Try.underlying9 (HD4.out.r.below ((Gr.drew w4).trans hw'))
        go_simp
        with_reducible rfl
      simp only [Act.put, List.setIfInBounds_toArray, List.set_cons_zero, List.set_cons_succ]
      -- 21: slot 66
      refine wpG_take preGr (i := 21) (v := ?_) (by kernel_rfl) (some 66) (by kernel_rfl) rfl (by kernel_rfl) (by kernel_rfl) (by kernel_rfl) (fun _ _ _ h => h) (by rfl) (fun w' hw' => ?_) rfl ?_
      rotate_left
      · have g3 := (cells8 (heap_below HGD4.out ((Gr.drew w4).trans hw'))).2.2.2.1
        have g4 := (cells8 (heap_below HGD4.out ((Gr.drew w4).trans hw'))).2.2.2.2.1
        have g5 := (cells8 (heap_below HGD4.out ((Gr.drew w4).trans hw'))).2.2.2.2.2.1
        have g6 := (cells8 (heap_below HGD4.out ((Gr.drew w4).trans hw'))).2.2.2.2.2.2.1
        simp only [HU.out] at g5
        simp only [HR.out] at g6
        have cu := cell_gr ((Gr.drew w4).trans hw') HCU.out
        have s1 := run_string_of (P := Try.prog) 22 9 5 Try.underlying22 Try.underlying5 Try.underlying9 (HVU.out.below ((Gr.drew w4).trans hw'))
        have s2 := run_string_of (P := Try.prog) 22 9 5 Try.underlying22 Try.underlying5 Try.underlying9 (HD4.out.u.below ((Gr.drew w4).trans hw'))
        have cr := cell_gr ((Gr.drew w4).trans hw') HCR.out
        have s3 := run_string_of (P := Try.prog) 22 9 5 Try.underlying22 Try.underlying5 Try.underlying9 (HVR.out.below ((Gr.drew w4).trans hw'))
        have s4 := run_string_of (P := Try.prog) 22 9 5 Try.underlying22 Try.underlying5 Try.underlying9 (HD4.out.r.below ((Gr.drew w4).trans hw'))
        go_simp
        with_reducible rfl
      simp only [Act.put, List.setIfInBounds_toArray, List.set_cons_zero, List.set_cons_succ]
      -- 22: slot 67
      refine wpG_take preGr (i := 22) (v := ?_) (by kernel_rfl) (some 67) (by kernel_rfl) rfl (by kernel_rfl) (by kernel_rfl) (by kernel_rfl) (fun _ _ _ h => h) (by rfl) (fun w' hw' => ?_) rfl ?_
      rotate_left
      · have g3 := (cells8 (heap_below HGD4.out ((Gr.drew w4).trans hw'))).2.2.2.1
        have g4 := (cells8 (heap_below HGD4.out ((Gr.drew w4).trans hw'))).2.2.2.2.1
        have g5 := (cells8 (heap_below HGD4.out ((Gr.drew w4).trans hw'))).2.2.2.2.2.1
        have g6 := (cells8 (heap_below HGD4.out ((Gr.drew w4).trans hw'))).2.2.2.2.2.2.1
        simp only [HU.out] at g5
        simp only [HR.out] at g6
        have cu := cell_gr ((Gr.drew w4).trans hw') HCU.out
        have s1 := run_string_of (P := Try.prog) 22 9 5 Try.underlying22 Try.underlying5 Try.underlying9 (HVU.out.below ((Gr.drew w4).trans hw'))
        have s2 := run_string_of (P := Try.prog) 22 9 5 Try.underlying22 Try.underlying5 Try.underlying9 (HD4.out.u.below ((Gr.drew w4).trans hw'))
        have cr := cell_gr ((Gr.drew w4).trans hw') HCR.out
        have s3 := run_string_of (P := Try.prog) 22 9 5 Try.underlying22 Try.underlying5 Try.underlying9 (HVR.out.below ((Gr.drew w4).trans hw'))
        have s4 := run_string_of (P := Try.prog) 22 9 5 Try.underlying22 Try.underlying5 Try.underlying9 (HD4.out.r.below ((Gr.drew w4).trans hw'))
        go_simp
        with_reducible rfl
      simp only [Act.put, List.setIfInBounds_toArray, List.set_cons_zero, List.set_cons_succ]
      -- 23: slot 68
      refine wpG_take preGr (i := 23) (v := ?_) (by kernel_rfl) (some 68) (by kernel_rfl) rfl (by kernel_rfl) (by kernel_rfl) (by kernel_rfl) (fun _ _ _ h => h) (by rfl) (fun w' hw' => ?_) rfl ?_
      rotate_left
      · have g3 := (cells8 (heap_below HGD4.out ((Gr.drew w4).trans hw'))).2.2.2.1
        have g4 := (cells8 (heap_below HGD4.out ((Gr.drew w4).trans hw'))).2.2.2.2.1
        have g5 := (cells8 (heap_below HGD4.out ((Gr.drew w4).trans hw'))).2.2.2.2.2.1
        have g6 := (cells8 (heap_below HGD4.out ((Gr.drew w4).trans hw'))).2.2.2.2.2.2.1
        simp only [HU.out] at g5
        simp only [HR.out] at g6
        have cu := cell_gr ((Gr.drew w4).trans hw') HCU.out
        have s1 := run_string_of (P := Try.prog) 22 9 5 Try.underlying22 Try.underlying5 Try.underlying9 (HVU.out.below ((Gr.drew w4).trans hw'))
        have s2 := run_string_of (P := Try.prog) 22 9 5 Try.underlying22 Try.underlying5 Try.underlying9 (HD4.out.u.below ((Gr.drew w4).trans hw'))
        have cr := cell_gr ((Gr.drew w4).trans hw') HCR.out
        have s3 := run_string_of (P := Try.prog) 22 9 5 Try.underlying22 Try.underlying5 Try.underlying9 (HVR.out.below ((Gr.drew w4).trans hw'))
        have s4 := run_string_of (P := Try.prog) 22 9 5 Try.underlying22 Try.underlying5 Try.underlying9 (HD4.out.r.below ((Gr.drew w4).trans hw'))
        go_simp
        with_reducible rfl
      simp only [Act.put, List.setIfInBounds_toArray, List.set_cons_zero, List.set_cons_succ]
      -- 24: slot 69
      refine wpG_take preGr (i := 24) (v := ?_) (by kernel_rfl) (some 69) (by kernel_rfl) rfl (by kernel_rfl) (by kernel_rfl) (by kernel_rfl) (fun _ _ _ h => h) (by rfl) (fun w' hw' => ?_) rfl ?_
      rotate_left
      · have g3 := (cells8 (heap_below HGD4.out ((Gr.drew w4).trans hw'))).2.2.2.1
        have g4 := (cells8 (heap_below HGD4.out ((Gr.drew w4).trans hw'))).2.2.2.2.1
        have g5 := (cells8 (heap_below HGD4.out ((Gr.drew w4).trans hw'))).2.2.2.2.2.1
        have g6 := (cells8 (heap_below HGD4.out ((Gr.drew w4).trans hw'))).2.2.2.2.2.2.1
        simp only [HU.out] at g5
        simp only [HR.out] at g6
        have cu := cell_gr ((Gr.drew w4).trans hw') HCU.out
        have s1 := run_string_of (P := Try.prog) 22 9 5 Try.underlying22 Try.underlying5 Try.underlying9 (HVU.out.below ((Gr.drew w4).trans hw'))
        have s2 := run_string_of (P := Try.prog) 22 9 5 Try.underlying22 Try.underlying5 Try.underlying9 (HD4.out.u.below ((Gr.drew w4).trans hw'))
        have cr := cell_gr ((Gr.drew w4).trans hw') HCR.out
        have s3 := run_string_of (P := Try.prog) 22 9 5 Try.underlying22 Try.underlying5 Try.underlying9 (HVR.out.below ((Gr.drew w4).trans hw'))
        have s4 := run_string_of (P := Try.prog) 22 9 5 Try.underlying22 Try.underlying5 Try.underlying9 (HD4.out.r.below ((Gr.drew w4).trans hw'))
        go_simp
        with_reducible rfl
      simp only [Act.put, List.setIfInBounds_toArray, List.set_cons_zero, List.set_cons_succ]
      -- 25: slot 70
      refine wpG_take preGr (i := 25) (v := ?_) (by kernel_rfl) (some 70) (by kernel_rfl) rfl (by kernel_rfl) (by kernel_rfl) (by kernel_rfl) (fun _ _ _ h => h) (by rfl) (fun w' hw' => ?_) rfl ?_
      rotate_left
      · have g3 := (cells8 (heap_below HGD4.out ((Gr.drew w4).trans hw'))).2.2.2.1
        have g4 := (cells8 (heap_below HGD4.out ((Gr.drew w4).trans hw'))).2.2.2.2.1
        have g5 := (cells8 (heap_below HGD4.out ((Gr.drew w4).trans hw'))).2.2.2.2.2.1
        have g6 := (cells8 (heap_below HGD4.out ((Gr.drew w4).trans hw'))).2.2.2.2.2.2.1
        simp only [HU.out] at g5
        simp only [HR.out] at g6
        have cu := cell_gr ((Gr.drew w4).trans hw') HCU.out
        have s1 := run_string_of (P := Try.prog) 22 9 5 Try.underlying22 Try.underlying5 Try.underlying9 (HVU.out.below ((Gr.drew w4).trans hw'))
        have s2 := run_string_of (P := Try.prog) 22 9 5 Try.underlying22 Try.underlying5 Try.underlying9 (HD4.out.u.below ((Gr.drew w4).trans hw'))
        have cr := cell_gr ((Gr.drew w4).trans hw') HCR.out
        have s3 := run_string_of (P := Try.prog) 22 9 5 Try.underlying22 Try.underlying5 Try.underlying9 (HVR.out.below ((Gr.drew w4).trans hw'))
        have s4 := run_string_of (P := Try.prog) 22 9 5 Try.underlying22 Try.underlying5 Try.underlying9 (HD4.out.r.below ((Gr.drew w4).trans hw'))
        go_simp
        with_reducible rfl
      simp only [Act.put, List.setIfInBounds_toArray, List.set_cons_zero, List.set_cons_succ]
      -- 26: slot 71
      refine wpG_take preGr (i := 26) (v := ?_) (by kernel_rfl) (some 71) (by kernel_rfl) rfl (by kernel_rfl) (by kernel_rfl) (by kernel_rfl) (fun _ _ _ h => h) (by rfl) (fun w' hw' => ?_) rfl ?_
      rotate_left
      · have g3 := (cells8 (heap_below HGD4.out ((Gr.drew w4).trans hw'))).2.2.2.1
        have g4 := (cells8 (heap_below HGD4.out ((Gr.drew w4).trans hw'))).2.2.2.2.1
        have g5 := (cells8 (heap_below HGD4.out ((Gr.drew w4).trans hw'))).2.2.2.2.2.1
        have g6 := (cells8 (heap_below HGD4.out ((Gr.drew w4).trans hw'))).2.2.2.2.2.2.1
        simp only [HU.out] at g5
        simp only [HR.out] at g6
        have cu := cell_gr ((Gr.drew w4).trans hw') HCU.out
        have s1 := run_string_of (P := Try.prog) 22 9 5 Try.underlying22 Try.underlying5 Try.underlying9 (HVU.out.below ((Gr.drew w4).trans hw'))
        have s2 := run_string_of (P := Try.prog) 22 9 5 Try.underlying22 Try.underlying5 Try.underlying9 (HD4.out.u.below ((Gr.drew w4).trans hw'))
        have cr := cell_gr ((Gr.drew w4).trans hw') HCR.out
        have s3 := run_string_of (P := Try.prog) 22 9 5 Try.underlying22 Try.underlying5 Try.underlying9 (HVR.out.below ((Gr.drew w4).trans hw'))
        have s4 := run_string_of (P := Try.prog) 22 9 5 Try.underlying22 Try.underlying5 Try.underlying9 (HD4.out.r.below ((Gr.drew w4).trans hw'))
        go_simp
        with_reducible rfl
      simp only [Act.put, List.setIfInBounds_toArray, List.set_cons_zero, List.set_cons_succ]
      -- 27: slot 72
      refine wpG_take preGr (i := 27) (v := ?_) (by kernel_rfl) (some 72) (by kernel_rfl) rfl (by kernel_rfl) (by kernel_rfl) (by kernel_rfl) (fun _ _ _ h => h) (by rfl) (fun w' hw' => ?_) rfl ?_
      rotate_left
      · have g3 := (cells8 (heap_below HGD4.out ((Gr.drew w4).trans hw'))).2.2.2.1
        have g4 := (cells8 (heap_below HGD4.out ((Gr.drew w4).trans hw'))).2.2.2.2.1
        have g5 := (cells8 (heap_below HGD4.out ((Gr.drew w4).trans hw'))).2.2.2.2.2.1
        have g6 := (cells8 (heap_below HGD4.out ((Gr.drew w4).trans hw'))).2.2.2.2.2.2.1
        simp only [HU.out] at g5
        simp only [HR.out] at g6
        have cu := cell_gr ((Gr.drew w4).trans hw') HCU.out
        have s1 := run_string_of (P := Try.prog) 22 9 5 Try.underlying22 Try.underlying5 Try.underlying9 (HVU.out.below ((Gr.drew w4).trans hw'))
        have s2 := run_string_of (P := Try.prog) 22 9 5 Try.underlying22 Try.underlying5 Try.underlying9 (HD4.out.u.below ((Gr.drew w4).trans hw'))
        have cr := cell_gr ((Gr.drew w4).trans hw') HCR.out
        have s3 := run_string_of (P := Try.prog) 22 9 5 Try.underlying22 Try.underlying5 Try.underlying9 (HVR.out.below ((Gr.drew w4).trans hw'))
        have s4 := run_string_of (P := Try.prog) 22 9 5 Try.underlying22 Try.underlying5 Try.underlying9 (HD4.out.r.below ((Gr.drew w4).trans hw'))
        go_simp
        with_reducible rfl
      simp only [Act.put, List.setIfInBounds_toArray, List.set_cons_zero, List.set_cons_succ]
      -- 28: slot 4
      refine wpG_take preGr (i := 28) (v := ?_) (by kernel_rfl) (some 4) (by kernel_rfl) rfl (by kernel_rfl) (by kernel_rfl) (by kernel_rfl) (fun _ _ _ h => h) (by rfl) (fun w' hw' => ?_) rfl ?_
      rotate_left
      · have g3 := (cells8 (heap_below HGD4.out ((Gr.drew w4).trans hw'))).2.2.2.1
        have g4 := (cells8 (heap_below HGD4.out ((Gr.drew w4).trans hw'))).2.2.2.2.1
        have g5 := (cells8 (heap_below HGD4.out ((Gr.drew w4).trans hw'))).2.2.2.2.2.1
        have g6 := (cells8 (heap_below HGD4.out ((Gr.drew w4).trans hw'))).2.2.2.2.2.2.1
        simp only [HU.out] at g5
        simp only [HR.out] at g6
        have cu := cell_gr ((Gr.drew w4).trans hw') HCU.out
        have s1 := run_string_of (P := Try.prog) 22 9 5 Try.underlying22 Try.underlying5 Try.underlying9 (HVU.out.below ((Gr.drew w4).trans hw'))
        have s2 := run_string_of (P := Try.prog) 22 9 5 Try.underlying22 Try.underlying5 Try.underlying9 (HD4.out.u.below ((Gr.drew w4).trans hw'))
        have cr := cell_gr ((Gr.drew w4).trans hw') HCR.out
        have s3 := run_string_of (P := Try.prog) 22 9 5 Try.underlying22 Try.underlying5 Try.underlying9 (HVR.out.below ((Gr.drew w4).trans hw'))
        have s4 := run_string_of (P := Try.prog) 22 9 5 Try.underlying22 Try.underlying5 Try.underlying9 (HD4.out.r.below ((Gr.drew w4).trans hw'))
        go_simp
        with_reducible rfl
      simp only [Act.put, List.setIfInBounds_toArray, List.set_cons_zero, List.set_cons_succ]
      refine wpG_done (by kernel_rfl) ?_ _
      go_wp2
      go_ret
      exact ⟨by simp, HB4.out.drew⟩
end Go.Proofs.Ytcpeglljcipcbaa
