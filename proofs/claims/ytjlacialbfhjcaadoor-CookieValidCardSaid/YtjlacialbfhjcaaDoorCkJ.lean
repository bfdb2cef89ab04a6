/-
  The laws' example of cookies.
-/
import Derived.Test.YtjlacialbfhjcaaDoorCkI
import Derived.Test.YtjlacialbfhjcaaDoorMark
namespace Go.Proofs.YtjlacialbfhjcaaDoor.Ck
open Go.RowKit
set_option linter.unusedVariables false
set_option linter.unusedSimpArgs false

def sS : List UInt8 := [115]
def sU : List UInt8 := [117]
def sM : List UInt8 := [2, 0, 0, 0, 0, 1]
theorem sM_is : sM.map u8v = [.int .u8 2, .int .u8 0, .int .u8 0, .int .u8 0, .int .u8 0, .int .u8 1] := rfl
theorem ex_ok (t : Int) (h0 : 0 ≤ t) (h1 : t ≤ 1099511627776) : makE sS 10 sU t = 0 :=
  makE_ok (epE_ok ((okC_iff _ _).2 ⟨⟨by decide, by decide⟩, by decide, by decide⟩) ⟨h0, h1⟩) (by decide)
theorem ex_0 : valid sS 10 sM sU (makB sS 10 sM sU 9) 0 := by
  rw [makB_yes (ex_ok 9 (by decide) (by decide))]
  exact ⟨ex_ok 0 (by decide) (by decide), .inl (congrArg (cookL sS sM sU) (by decide))⟩
theorem ex_19 : valid sS 10 sM sU (makB sS 10 sM sU 9) 19 := valid_time (ex_ok 9 (by decide) (by decide)) (by decide) (by decide) (by decide)
theorem ex_len : (makB sS 10 sM sU 9).length = 32 := by rw [makB_yes (ex_ok 9 (by decide) (by decide)), cookL_length]
theorem ex_short : ¬ valid sS 10 sM sU ((makB sS 10 sM sU 9).drop 1) 9 := fun h => by
  have := valid_length h
  rw [List.length_drop, ex_len] at this
  omega
theorem ex_epoch : epE sS 10 25 = 0 ∧ epN sS 10 25 = 2 := by
  have h : epE sS 10 25 = 0 := epE_ok ((okC_iff _ _).2 ⟨⟨by decide, by decide⟩, by decide, by decide⟩) ⟨by decide, by decide⟩
  exact ⟨h, by rw [epN_yes h]; decide⟩
theorem ex_none : ckE [] 0 = 90 := if_neg fun h => by have := h.1; simp at this
theorem blk {w w' : World} {g : Nat} {o : Obj} (h : w.heap[g]? = some o) (hb : Below w.heap.size w w') : w'.heap[g]? = some o := heap_below h hb
set_option maxRecDepth 20000 in
set_option maxHeartbeats 4000000 in
theorem awake_any (w : World) (hL : Laid w) :
    Calls Tryd.prog 15 #[] w fun e w' => e = .returned (.bool true) ∧ Below w.heap.size w w' := by
  obtain ⟨i0, hi, hz0, hz1, hz2⟩ := info_parts info5
  have kc := fun (w : World) (C : Array Value) (n c : Nat) => Lib.run_convert_bytes_const (P := Tryd.prog) w 22 5 C n c Tryd.underlying22 Tryd.underlying5
  have kc3 : (convert 22 22 (.slice (some ⟨w.heap.size + 3, 0, none⟩) 1 1)).run Tryd.prog ((((w.alloc (.cells #[.int .u8 115] 5 (1, 2))).alloc (.cells #[.slice (some ⟨w.heap.size, 0, none⟩) 1 1, .int .i64 10] 24)).alloc (.cells #[.int .u8 2, .int .u8 0, .int .u8 0, .int .u8 0, .int .u8 0, .int .u8 1] 26)).alloc (.cells #[.int .u8 117] 5)) = .ok (.slice (some ⟨w.heap.size + 3, 0, none⟩) 1 1) ((((w.alloc (.cells #[.int .u8 115] 5 (1, 2))).alloc (.cells #[.slice (some ⟨w.heap.size, 0, none⟩) 1 1, .int .i64 10] 24)).alloc (.cells #[.int .u8 2, .int .u8 0, .int .u8 0, .int .u8 0, .int .u8 0, .int .u8 1] 26)).alloc (.cells #[.int .u8 117] 5 (1, 2))) := by
    have := kc (((w.alloc (.cells #[.int .u8 115] 5 (1, 2))).alloc (.cells #[.slice (some ⟨w.heap.size, 0, none⟩) 1 1, .int .i64 10] 24)).alloc (.cells #[.int .u8 2, .int .u8 0, .int .u8 0, .int .u8 0, .int .u8 0, .int .u8 1] 26)) #[.int .u8 117] 1 1
    rw [World.size_alloc, World.size_alloc, World.size_alloc] at this
    exact this
  have hb4 : Below w.heap.size w ((((w.alloc (.cells #[.int .u8 115] 5 (1, 2))).alloc (.cells #[.slice (some ⟨w.heap.size, 0, none⟩) 1 1, .int .i64 10] 24)).alloc (.cells #[.int .u8 2, .int .u8 0, .int .u8 0, .int .u8 0, .int .u8 0, .int .u8 1] 26)).alloc (.cells #[.int .u8 117] 5 (1, 2))) := (((((Below.refl _ _).alloc (Nat.le_refl _) _).alloc (by simp) _).alloc (by simp; omega) _).alloc (by simp; omega) _)
  have HB4 := Lib.hid hb4
  have q0 : ((((w.alloc (.cells #[.int .u8 115] 5 (1, 2))).alloc (.cells #[.slice (some ⟨w.heap.size, 0, none⟩) 1 1, .int .i64 10] 24)).alloc (.cells #[.int .u8 2, .int .u8 0, .int .u8 0, .int .u8 0, .int .u8 0, .int .u8 1] 26)).alloc (.cells #[.int .u8 117] 5 (1, 2))).heap[w.heap.size]? = some (.cells #[.int .u8 115] 5 (1, 2)) := by
    rw [Below.heap_alloc _ _ _ (by simp <;> omega), Below.heap_alloc _ _ _ (by simp <;> omega), Below.heap_alloc _ _ _ (by simp), heap_alloc_last]
  have q1 : ((((w.alloc (.cells #[.int .u8 115] 5 (1, 2))).alloc (.cells #[.slice (some ⟨w.heap.size, 0, none⟩) 1 1, .int .i64 10] 24)).alloc (.cells #[.int .u8 2, .int .u8 0, .int .u8 0, .int .u8 0, .int .u8 0, .int .u8 1] 26)).alloc (.cells #[.int .u8 117] 5 (1, 2))).heap[w.heap.size + 1]? = some (.cells #[.slice (some ⟨w.heap.size, 0, none⟩) 1 1, .int .i64 10] 24 (0, 0)) := by
    have := heap_alloc_last (w.alloc (.cells #[.int .u8 115] 5 (1, 2))) (.cells #[.slice (some ⟨w.heap.size, 0, none⟩) 1 1, .int .i64 10] 24)
    rw [World.size_alloc] at this
    rw [Below.heap_alloc _ _ _ (by simp <;> omega), Below.heap_alloc _ _ _ (by simp), this]
  have q2 : ((((w.alloc (.cells #[.int .u8 115] 5 (1, 2))).alloc (.cells #[.slice (some ⟨w.heap.size, 0, none⟩) 1 1, .int .i64 10] 24)).alloc (.cells #[.int .u8 2, .int .u8 0, .int .u8 0, .int .u8 0, .int .u8 0, .int .u8 1] 26)).alloc (.cells #[.int .u8 117] 5 (1, 2))).heap[w.heap.size + 1 + 1]? = some (.cells #[.int .u8 2, .int .u8 0, .int .u8 0, .int .u8 0, .int .u8 0, .int .u8 1] 26 (0, 0)) := by
    have := heap_alloc_last ((w.alloc (.cells #[.int .u8 115] 5 (1, 2))).alloc (.cells #[.slice (some ⟨w.heap.size, 0, none⟩) 1 1, .int .i64 10] 24)) (.cells #[.int .u8 2, .int .u8 0, .int .u8 0, .int .u8 0, .int .u8 0, .int .u8 1] 26)
    rw [World.size_alloc, World.size_alloc] at this
    rw [Below.heap_alloc _ _ _ (by simp), this]
  have q3 : ((((w.alloc (.cells #[.int .u8 115] 5 (1, 2))).alloc (.cells #[.slice (some ⟨w.heap.size, 0, none⟩) 1 1, .int .i64 10] 24)).alloc (.cells #[.int .u8 2, .int .u8 0, .int .u8 0, .int .u8 0, .int .u8 0, .int .u8 1] 26)).alloc (.cells #[.int .u8 117] 5 (1, 2))).heap[w.heap.size + 3]? = some (.cells #[.int .u8 117] 5 (1, 2)) := by
    have := heap_alloc_last (((w.alloc (.cells #[.int .u8 115] 5 (1, 2))).alloc (.cells #[.slice (some ⟨w.heap.size, 0, none⟩) 1 1, .int .i64 10] 24)).alloc (.cells #[.int .u8 2, .int .u8 0, .int .u8 0, .int .u8 0, .int .u8 0, .int .u8 1] 26)) (.cells #[.int .u8 117] 5 (1, 2))
    rw [World.size_alloc, World.size_alloc, World.size_alloc] at this
    exact this
  have HLD := Lib.hid hL
  have Q0 := Lib.hid q0
  have Q1 := Lib.hid q1
  have Q2 := Lib.hid q2
  have Q3 := Lib.hid q3
  clear hb4 q0 q1 q2 q3 hL
  go_enter Tryd.func15, Tryd.ntmps15
  go_wp2_with fail
  clear kc kc3
  generalize ((((w.alloc (.cells #[.int .u8 115] 5 (1, 2))).alloc (.cells #[.slice (some ⟨w.heap.size, 0, none⟩) 1 1, .int .i64 10] 24)).alloc (.cells #[.int .u8 2, .int .u8 0, .int .u8 0, .int .u8 0, .int .u8 0, .int .u8 1] 26)).alloc (.cells #[.int .u8 117] 5 (1, 2))) = w4 at HB4 Q0 Q1 Q2 Q3 ⊢
  have HS4 : Hid (Bs w4 (.slice (some ⟨w.heap.size, 0, none⟩) 1 1) sS) := rd_row (cs := sS.map u8v) Q0.out 1 rfl (by decide)
  have HU4 : Hid (Bs w4 (.slice (some ⟨w.heap.size + 3, 0, none⟩) 1 1) sU) := rd_row (cs := sU.map u8v) Q3.out 1 rfl (by decide)
  refine (make_any (some ⟨w.heap.size, 0, none⟩) 1 1 sS rfl 10 9 (some ⟨w.heap.size + 3, 0, none⟩) 1 1 sU rfl _ _ _ _ _ _ sM sM_is w4 (HLD.out.below HB4.out) HS4.out HU4.out).mono ?_
  rintro e w5 ⟨A, L, C, rfl, hl, ho, hb5⟩
  rw [ex_ok 9 (by decide) (by decide)]
  rw [ex_len] at hl
  subst hl
  obtain ⟨y, hy⟩ : ∃ y, y = makB sS 10 sM sU 9 := ⟨_, rfl⟩
  rw [← hy] at ho
  have HY := Lib.hid hy
  have HYL : Hid (y.length = 32) := by show _ = _; rw [hy, ex_len]
  have HO5 := Lib.hid ho.bs
  have HB5 := Lib.hid (HB4.out.trans (hb5.mono HB4.out.size))
  have HS5 := Lib.hid (HS4.out.below hb5)
  have Q15 := Lib.hid (heap_below Q1.out hb5)
  have Q25 := Lib.hid (heap_below Q2.out hb5)
  obtain ⟨k0, k1⟩ := cells2 Q15.out
  clear hy ho hb5 HS4 HU4 Q0 Q1 Q2 Q3
  go_wp2_with fail
  refine (epoch_any (some ⟨w.heap.size, 0, none⟩) 1 1 sS rfl 10 25 w5).mono ?_
  rintro e wz ⟨rfl, hb6⟩
  rw [ex_epoch.1, ex_epoch.2]
  have HBZ := Lib.hid (HB5.out.trans (hb6.mono HB5.out.size))
  have HSZ := Lib.hid (HS5.out.below hb6)
  have HOZ := Lib.hid (HO5.out.below hb6)
  have Q1Z := Lib.hid (heap_below Q15.out hb6)
  have Q2Z := Lib.hid (heap_below Q25.out hb6)
  clear k0 k1 hb6 HB5 HS5 HO5 Q15 Q25 HB4
  have HLZ := Lib.hid (HLD.out.below HBZ.out)
  go_wp2_with fail
  have HVAL : Hid (∀ (t : Int) (wc : World) (gc : Nat) (ac : Option Addr) (nc cc : Nat) (c : List UInt8), c.length = nc → Gr wz wc → wc.heap[gc]? = some (.cells #[.int .u8 117] 5 (1, 2)) → Bs wc (.slice ac nc cc) c →
      Calls Tryd.prog 16 #[.agg #[.slice (some ⟨w.heap.size, 0, none⟩) 1 1, .int .i64 10], .agg #[.int .u8 2, .int .u8 0, .int .u8 0, .int .u8 0, .int .u8 0, .int .u8 1], .slice (some ⟨gc, 0, none⟩) 1 1, .slice ac nc cc, .int .i64 t] wc fun e w' => e = .returned (.bool (decide (valid sS 10 sM sU c t))) ∧ Below wc.heap.size wc w') :=
    fun t wc gc ac nc cc c hn hg hk hb => valid_any (some ⟨w.heap.size, 0, none⟩) 1 1 sS rfl 10 t (some ⟨gc, 0, none⟩) 1 1 sU rfl ac nc cc c hn _ _ _ _ _ _ sM sM_is wc (HLZ.out.below hg) (HSZ.out.below hg) (rd_row (cs := sU.map u8v) hk 1 rfl (by decide)) hb
  obtain ⟨_, _, es, hcz, hmz⟩ := HOZ.out.shape
  simp only [Value.slice.injEq] at es
  obtain ⟨rfl, z0, rfl⟩ := es
  have hor : Rd wz 1 (.slice A 32 C) 32 (y.map u8v) := by have := HOZ.out; unfold Bs at this; rw [HYL.out] at this; exact this
  obtain ⟨a7, hs7, hr7⟩ := slice_from (P := Tryd.prog) Tryd.underlying22 hi hz1 hor .i64 1 1 rfl (by decide)
  have hdr : (y.map u8v).drop (1 * 1) = (y.drop 1).map u8v := by rw [List.map_drop]
  rw [hdr] at hr7
  have HD7 : Hid ((y.drop 1).length = 31) := by show _ = _; rw [List.length_drop, HYL.out]
  have HRZ : Hid (Bs wz (.slice a7 31 (C - 1)) (y.drop 1)) := by show Bs _ _ _; unfold Bs; rw [HD7.out]; exact hr7
  have d1 : decide (valid sS 10 sM sU y 0) = true := decide_eq_true (by rw [HY.out]; exact ex_0)
  have d2 : decide (valid sS 10 sM sU y 19) = true := decide_eq_true (by rw [HY.out]; exact ex_19)
  have d3 : decide (valid sS 10 sM sU (y.drop 1) 9) = false := decide_eq_false (by rw [HY.out]; exact ex_short)
  have HC : Hid (Gr wz wz.drew) := Gr.drew wz
  clear hor hr7 hdr hcz hmz z0
  have H1 := Lib.hid d1
  have H2 := Lib.hid d2
  have H3 := Lib.hid d3
  clear d1 d2 d3
  refine wp_region_G 47 (Below (wz.heap.size)) (by kernel_rfl) ?_
  generalize wz.drew = wc at HC ⊢
  -- 0: slot 24
  refine wpG_take (preBelow (wz.heap.size)) (i := 0) (v := ?_) (by kernel_rfl) (some 24) (by kernel_rfl) rfl (by kernel_rfl) (by kernel_rfl) (by kernel_rfl) (fun _ _ _ h => h) (by rfl) (fun w' hw' => ?_) rfl ?_
  rotate_left
  · have k0 := (cells2 (heap_below Q1Z.out (Below.trans HC.out hw'))).1
    have k1 := (cells2 (heap_below Q1Z.out (Below.trans HC.out hw'))).2
    have m0 := (cells6 (heap_below Q2Z.out (Below.trans HC.out hw'))).1
    have m1 := (cells6 (heap_below Q2Z.out (Below.trans HC.out hw'))).2.1
    have m2 := (cells6 (heap_below Q2Z.out (Below.trans HC.out hw'))).2.2.1
    have m3 := (cells6 (heap_below Q2Z.out (Below.trans HC.out hw'))).2.2.2.1
    have m4 := (cells6 (heap_below Q2Z.out (Below.trans HC.out hw'))).2.2.2.2.1
    have m5 := (cells6 (heap_below Q2Z.out (Below.trans HC.out hw'))).2.2.2.2.2
    go_simp
    with_reducible rfl
  simp only [Act.put, List.setIfInBounds_toArray, List.set_cons_zero, List.set_cons_succ]
  -- 1: slot 25
  refine wpG_take (preBelow (wz.heap.size)) (i := 1) (v := ?_) (by kernel_rfl) (some 25) (by kernel_rfl) rfl (by kernel_rfl) (by kernel_rfl) (by kernel_rfl) (fun _ _ _ h => h) (by rfl) (fun w' hw' => ?_) rfl ?_
  rotate_left
  · have k0 := (cells2 (heap_below Q1Z.out (Below.trans HC.out hw'))).1
    have k1 := (cells2 (heap_below Q1Z.out (Below.trans HC.out hw'))).2
    have m0 := (cells6 (heap_below Q2Z.out (Below.trans HC.out hw'))).1
    have m1 := (cells6 (heap_below Q2Z.out (Below.trans HC.out hw'))).2.1
    have m2 := (cells6 (heap_below Q2Z.out (Below.trans HC.out hw'))).2.2.1
    have m3 := (cells6 (heap_below Q2Z.out (Below.trans HC.out hw'))).2.2.2.1
    have m4 := (cells6 (heap_below Q2Z.out (Below.trans HC.out hw'))).2.2.2.2.1
    have m5 := (cells6 (heap_below Q2Z.out (Below.trans HC.out hw'))).2.2.2.2.2
    go_simp
    with_reducible rfl
  simp only [Act.put, List.setIfInBounds_toArray, List.set_cons_zero, List.set_cons_succ]
  -- 2: slot 26
  refine wpG_take (preBelow (wz.heap.size)) (i := 2) (v := ?_) (by kernel_rfl) (some 26) (by kernel_rfl) rfl (by kernel_rfl) (by kernel_rfl) (by kernel_rfl) (fun _ _ _ h => h) (by rfl) (fun w' hw' => ?_) rfl ?_
  rotate_left
  · have k0 := (cells2 (heap_below Q1Z.out (Below.trans HC.out hw'))).1
    have k1 := (cells2 (heap_below Q1Z.out (Below.trans HC.out hw'))).2
    have m0 := (cells6 (heap_below Q2Z.out (Below.trans HC.out hw'))).1
    have m1 := (cells6 (heap_below Q2Z.out (Below.trans HC.out hw'))).2.1
    have m2 := (cells6 (heap_below Q2Z.out (Below.trans HC.out hw'))).2.2.1
    have m3 := (cells6 (heap_below Q2Z.out (Below.trans HC.out hw'))).2.2.2.1
    have m4 := (cells6 (heap_below Q2Z.out (Below.trans HC.out hw'))).2.2.2.2.1
    have m5 := (cells6 (heap_below Q2Z.out (Below.trans HC.out hw'))).2.2.2.2.2
    go_simp
    with_reducible rfl
  simp only [Act.put, List.setIfInBounds_toArray, List.set_cons_zero, List.set_cons_succ]
  -- 3: slot 27
  refine wpG_take (preBelow (wz.heap.size)) (i := 3) (v := ?_) (by kernel_rfl) (some 27) (by kernel_rfl) rfl (by kernel_rfl) (by kernel_rfl) (by kernel_rfl) (fun _ _ _ h => h) (by rfl) (fun w' hw' => ?_) rfl ?_
  rotate_left
  · have k0 := (cells2 (heap_below Q1Z.out (Below.trans HC.out hw'))).1
    have k1 := (cells2 (heap_below Q1Z.out (Below.trans HC.out hw'))).2
    have m0 := (cells6 (heap_below Q2Z.out (Below.trans HC.out hw'))).1
    have m1 := (cells6 (heap_below Q2Z.out (Below.trans HC.out hw'))).2.1
    have m2 := (cells6 (heap_below Q2Z.out (Below.trans HC.out hw'))).2.2.1
    have m3 := (cells6 (heap_below Q2Z.out (Below.trans HC.out hw'))).2.2.2.1
    have m4 := (cells6 (heap_below Q2Z.out (Below.trans HC.out hw'))).2.2.2.2.1
    have m5 := (cells6 (heap_below Q2Z.out (Below.trans HC.out hw'))).2.2.2.2.2
    go_simp
    with_reducible rfl
  simp only [Act.put, List.setIfInBounds_toArray, List.set_cons_zero, List.set_cons_succ]
  -- 4: slot 28
  refine wpG_take (preBelow (wz.heap.size)) (i := 4) (v := ?_) (by kernel_rfl) (some 28) (by kernel_rfl) rfl (by kernel_rfl) (by kernel_rfl) (by kernel_rfl) (fun _ _ _ h => h) (by rfl) (fun w' hw' => ?_) rfl ?_
  rotate_left
  · have k0 := (cells2 (heap_below Q1Z.out (Below.trans HC.out hw'))).1
    have k1 := (cells2 (heap_below Q1Z.out (Below.trans HC.out hw'))).2
    have m0 := (cells6 (heap_below Q2Z.out (Below.trans HC.out hw'))).1
    have m1 := (cells6 (heap_below Q2Z.out (Below.trans HC.out hw'))).2.1
    have m2 := (cells6 (heap_below Q2Z.out (Below.trans HC.out hw'))).2.2.1
    have m3 := (cells6 (heap_below Q2Z.out (Below.trans HC.out hw'))).2.2.2.1
    have m4 := (cells6 (heap_below Q2Z.out (Below.trans HC.out hw'))).2.2.2.2.1
    have m5 := (cells6 (heap_below Q2Z.out (Below.trans HC.out hw'))).2.2.2.2.2
    go_simp
    with_reducible rfl
  simp only [Act.put, List.setIfInBounds_toArray, List.set_cons_zero, List.set_cons_succ]
  -- 5: slot 29
  refine wpG_take (preBelow (wz.heap.size)) (i := 5) (v := ?_) (by kernel_rfl) (some 29) (by kernel_rfl) rfl (by kernel_rfl) (by kernel_rfl) (by kernel_rfl) (fun _ _ _ h => h) (by rfl) (fun w' hw' => ?_) rfl ?_
  rotate_left
  · have k0 := (cells2 (heap_below Q1Z.out (Below.trans HC.out hw'))).1
    have k1 := (cells2 (heap_below Q1Z.out (Below.trans HC.out hw'))).2
    have m0 := (cells6 (heap_below Q2Z.out (Below.trans HC.out hw'))).1
    have m1 := (cells6 (heap_below Q2Z.out (Below.trans HC.out hw'))).2.1
    have m2 := (cells6 (heap_below Q2Z.out (Below.trans HC.out hw'))).2.2.1
    have m3 := (cells6 (heap_below Q2Z.out (Below.trans HC.out hw'))).2.2.2.1
    have m4 := (cells6 (heap_below Q2Z.out (Below.trans HC.out hw'))).2.2.2.2.1
    have m5 := (cells6 (heap_below Q2Z.out (Below.trans HC.out hw'))).2.2.2.2.2
    go_simp
    with_reducible rfl
  simp only [Act.put, List.setIfInBounds_toArray, List.set_cons_zero, List.set_cons_succ]
  -- 6: slot 30
  refine wpG_take (preBelow (wz.heap.size)) (i := 6) (v := ?_) (by kernel_rfl) (some 30) (by kernel_rfl) rfl (by kernel_rfl) (by kernel_rfl) (by kernel_rfl) (fun _ _ _ h => h) (by rfl) (fun w' hw' => ?_) rfl ?_
  rotate_left
  · have k0 := (cells2 (heap_below Q1Z.out (Below.trans HC.out hw'))).1
    have k1 := (cells2 (heap_below Q1Z.out (Below.trans HC.out hw'))).2
    have m0 := (cells6 (heap_below Q2Z.out (Below.trans HC.out hw'))).1
    have m1 := (cells6 (heap_below Q2Z.out (Below.trans HC.out hw'))).2.1
    have m2 := (cells6 (heap_below Q2Z.out (Below.trans HC.out hw'))).2.2.1
    have m3 := (cells6 (heap_below Q2Z.out (Below.trans HC.out hw'))).2.2.2.1
    have m4 := (cells6 (heap_below Q2Z.out (Below.trans HC.out hw'))).2.2.2.2.1
    have m5 := (cells6 (heap_below Q2Z.out (Below.trans HC.out hw'))).2.2.2.2.2
    go_simp
    with_reducible rfl
  simp only [Act.put, List.setIfInBounds_toArray, List.set_cons_zero, List.set_cons_succ]
  -- 7: slot 31
  refine wpG_take (preBelow (wz.heap.size)) (i := 7) (v := ?_) (by kernel_rfl) (some 31) (by kernel_rfl) rfl (by kernel_rfl) (by kernel_rfl) (by kernel_rfl) (fun _ _ _ h => h) (by rfl) (fun w' hw' => ?_) rfl ?_
  rotate_left
  · have k0 := (cells2 (heap_below Q1Z.out (Below.trans HC.out hw'))).1
    have k1 := (cells2 (heap_below Q1Z.out (Below.trans HC.out hw'))).2
    have m0 := (cells6 (heap_below Q2Z.out (Below.trans HC.out hw'))).1
    have m1 := (cells6 (heap_below Q2Z.out (Below.trans HC.out hw'))).2.1
    have m2 := (cells6 (heap_below Q2Z.out (Below.trans HC.out hw'))).2.2.1
    have m3 := (cells6 (heap_below Q2Z.out (Below.trans HC.out hw'))).2.2.2.1
    have m4 := (cells6 (heap_below Q2Z.out (Below.trans HC.out hw'))).2.2.2.2.1
    have m5 := (cells6 (heap_below Q2Z.out (Below.trans HC.out hw'))).2.2.2.2.2
    go_simp
    with_reducible rfl
  simp only [Act.put, List.setIfInBounds_toArray, List.set_cons_zero, List.set_cons_succ]
  -- 8: slot 32
  refine wpG_take (preBelow (wz.heap.size)) (i := 8) (v := ?_) (by kernel_rfl) (some 32) (by kernel_rfl) rfl (by kernel_rfl) (by kernel_rfl) (by kernel_rfl) (fun _ _ _ h => h) (by rfl) (fun w' hw' => ?_) rfl ?_
  rotate_left
  · have k0 := (cells2 (heap_below Q1Z.out (Below.trans HC.out hw'))).1
    have k1 := (cells2 (heap_below Q1Z.out (Below.trans HC.out hw'))).2
    have m0 := (cells6 (heap_below Q2Z.out (Below.trans HC.out hw'))).1
    have m1 := (cells6 (heap_below Q2Z.out (Below.trans HC.out hw'))).2.1
    have m2 := (cells6 (heap_below Q2Z.out (Below.trans HC.out hw'))).2.2.1
    have m3 := (cells6 (heap_below Q2Z.out (Below.trans HC.out hw'))).2.2.2.1
    have m4 := (cells6 (heap_below Q2Z.out (Below.trans HC.out hw'))).2.2.2.2.1
    have m5 := (cells6 (heap_below Q2Z.out (Below.trans HC.out hw'))).2.2.2.2.2
    go_simp
    with_reducible rfl
  simp only [Act.put, List.setIfInBounds_toArray, List.set_cons_zero, List.set_cons_succ]
  -- 9: slot 33
  refine wpG_take (preBelow (wz.heap.size)) (i := 9) (v := ?_) (by kernel_rfl) (some 33) (by kernel_rfl) rfl (by kernel_rfl) (by kernel_rfl) (by kernel_rfl) (fun _ _ _ h => h) (by rfl) (fun w' hw' => ?_) rfl ?_
  rotate_left
  · have k0 := (cells2 (heap_below Q1Z.out (Below.trans HC.out hw'))).1
    have k1 := (cells2 (heap_below Q1Z.out (Below.trans HC.out hw'))).2
    have m0 := (cells6 (heap_below Q2Z.out (Below.trans HC.out hw'))).1
    have m1 := (cells6 (heap_below Q2Z.out (Below.trans HC.out hw'))).2.1
    have m2 := (cells6 (heap_below Q2Z.out (Below.trans HC.out hw'))).2.2.1
    have m3 := (cells6 (heap_below Q2Z.out (Below.trans HC.out hw'))).2.2.2.1
    have m4 := (cells6 (heap_below Q2Z.out (Below.trans HC.out hw'))).2.2.2.2.1
    have m5 := (cells6 (heap_below Q2Z.out (Below.trans HC.out hw'))).2.2.2.2.2
    go_simp
    with_reducible rfl
  simp only [Act.put, List.setIfInBounds_toArray, List.set_cons_zero, List.set_cons_succ]
  -- 12: slot 36
  refine wpG_take (preBelow (wz.heap.size)) (i := 12) (v := ?_) (by kernel_rfl) (some 36) (by kernel_rfl) rfl (by kernel_rfl) (by kernel_rfl) (by kernel_rfl) (fun _ _ _ h => h) (by rfl) (fun w' hw' => ?_) rfl ?_
  rotate_left
  · have k0 := (cells2 (heap_below Q1Z.out (Below.trans HC.out hw'))).1
    have k1 := (cells2 (heap_below Q1Z.out (Below.trans HC.out hw'))).2
    have m0 := (cells6 (heap_below Q2Z.out (Below.trans HC.out hw'))).1
    have m1 := (cells6 (heap_below Q2Z.out (Below.trans HC.out hw'))).2.1
    have m2 := (cells6 (heap_below Q2Z.out (Below.trans HC.out hw'))).2.2.1
    have m3 := (cells6 (heap_below Q2Z.out (Below.trans HC.out hw'))).2.2.2.1
    have m4 := (cells6 (heap_below Q2Z.out (Below.trans HC.out hw'))).2.2.2.2.1
    have m5 := (cells6 (heap_below Q2Z.out (Below.trans HC.out hw'))).2.2.2.2.2
    go_simp
    with_reducible rfl
  simp only [Act.put, List.setIfInBounds_toArray, List.set_cons_zero, List.set_cons_succ]
  refine wpG_one (i := 10) rfl (by kernel_rfl) (by rfl) ?_
  go_simp
  have hb : Below wc.heap.size wc (wc.alloc (.cells #[.int .u8 117] 5)) := (Below.refl _ _).alloc (Nat.le_refl _) _
  refine ⟨hb.mono HC.out.size, ?_⟩
  have hk : (wc.alloc (.cells #[.int .u8 117] 5)).heap[wc.heap.size]? = some (.cells #[.int .u8 117] 5 (0, 0)) := heap_alloc_last _ _
  have hgb : wz.heap.size ≤ wc.heap.size := HC.out.size
  generalize wc.alloc (.cells #[.int .u8 117] 5) = wn at hb hk ⊢
  have HC' : Hid (Gr wz wn) := Below.trans HC.out (hb.mono HC.out.size)
  clear HC
  have HC := HC'
  clear HC'
  obtain ⟨gc, hgc⟩ : ∃ g, g = wc.heap.size := ⟨_, rfl⟩
  rw [← hgc] at hk hgb ⊢
  have HK := Lib.hid hk
  have HGB := Lib.hid hgb
  clear hgc hb hk hgb
  obtain ⟨wc, hwc⟩ : ∃ x, x = wn := ⟨_, rfl⟩
  subst hwc
  try simp only [Act.put, List.setIfInBounds_toArray, List.set_cons_zero, List.set_cons_succ]
  refine wpG_one (i := 11) rfl (by kernel_rfl) (by rfl) ?_
  obtain ⟨wn, hrun, ho, hk⟩ := run_mark (P := Tryd.prog) wc 22 5 gc #[.int .u8 117] 1 1 HK.out Tryd.underlying22 Tryd.underlying5
  go_simp
  refine ⟨ho.below _ _ HGB.out (Below.refl _ _), ?_⟩
  have HC' : Hid (Gr wz wn) := ho.below _ _ HGB.out HC.out
  clear HC HK
  have HC := HC'
  have HK := Lib.hid hk
  clear HC' hk ho hrun
  obtain ⟨wc, hwc⟩ : ∃ x, x = wn := ⟨_, rfl⟩
  subst hwc
  try simp only [Act.put, List.setIfInBounds_toArray, List.set_cons_zero, List.set_cons_succ]
  refine wpG_one (i := 13) rfl (by kernel_rfl) (by rfl) ?_
  go_simp
  refine (HVAL.out 0 wc gc A 32 C y HYL.out HC.out HK.out (HOZ.out.below HC.out)).mono ?_
  rintro e wn ⟨rfl, hb⟩
  rw [H1.out]
  refine ⟨hb.mono HC.out.size, ?_⟩
  have HC' : Hid (Gr wz wn) := Below.trans HC.out (hb.mono HC.out.size)
  clear HC HK HGB hb
  have HC := HC'
  clear HC'
  obtain ⟨wc, hwc⟩ : ∃ x, x = wn := ⟨_, rfl⟩
  subst hwc
  try simp only [Act.put, List.setIfInBounds_toArray, List.set_cons_zero, List.set_cons_succ]
  -- 14: slot 38
  refine wpG_take (preBelow (wz.heap.size)) (i := 14) (v := ?_) (by kernel_rfl) (some 38) (by kernel_rfl) rfl (by kernel_rfl) (by kernel_rfl) (by kernel_rfl) (fun _ _ _ h => h) (by rfl) (fun w' hw' => ?_) rfl ?_
  rotate_left
  · have k0 := (cells2 (heap_below Q1Z.out (Below.trans HC.out hw'))).1
    have k1 := (cells2 (heap_below Q1Z.out (Below.trans HC.out hw'))).2
    have m0 := (cells6 (heap_below Q2Z.out (Below.trans HC.out hw'))).1
    have m1 := (cells6 (heap_below Q2Z.out (Below.trans HC.out hw'))).2.1
    have m2 := (cells6 (heap_below Q2Z.out (Below.trans HC.out hw'))).2.2.1
    have m3 := (cells6 (heap_below Q2Z.out (Below.trans HC.out hw'))).2.2.2.1
    have m4 := (cells6 (heap_below Q2Z.out (Below.trans HC.out hw'))).2.2.2.2.1
    have m5 := (cells6 (heap_below Q2Z.out (Below.trans HC.out hw'))).2.2.2.2.2
    go_simp
    with_reducible rfl
  simp only [Act.put, List.setIfInBounds_toArray, List.set_cons_zero, List.set_cons_succ]
  -- 15: slot 39
  refine wpG_take (preBelow (wz.heap.size)) (i := 15) (v := ?_) (by kernel_rfl) (some 39) (by kernel_rfl) rfl (by kernel_rfl) (by kernel_rfl) (by kernel_rfl) (fun _ _ _ h => h) (by rfl) (fun w' hw' => ?_) rfl ?_
  rotate_left
  · have k0 := (cells2 (heap_below Q1Z.out (Below.trans HC.out hw'))).1
    have k1 := (cells2 (heap_below Q1Z.out (Below.trans HC.out hw'))).2
    have m0 := (cells6 (heap_below Q2Z.out (Below.trans HC.out hw'))).1
    have m1 := (cells6 (heap_below Q2Z.out (Below.trans HC.out hw'))).2.1
    have m2 := (cells6 (heap_below Q2Z.out (Below.trans HC.out hw'))).2.2.1
    have m3 := (cells6 (heap_below Q2Z.out (Below.trans HC.out hw'))).2.2.2.1
    have m4 := (cells6 (heap_below Q2Z.out (Below.trans HC.out hw'))).2.2.2.2.1
    have m5 := (cells6 (heap_below Q2Z.out (Below.trans HC.out hw'))).2.2.2.2.2
    go_simp
    with_reducible rfl
  simp only [Act.put, List.setIfInBounds_toArray, List.set_cons_zero, List.set_cons_succ]
  -- 16: slot 40
  refine wpG_take (preBelow (wz.heap.size)) (i := 16) (v := ?_) (by kernel_rfl) (some 40) (by kernel_rfl) rfl (by kernel_rfl) (by kernel_rfl) (by kernel_rfl) (fun _ _ _ h => h) (by rfl) (fun w' hw' => ?_) rfl ?_
  rotate_left
  · have k0 := (cells2 (heap_below Q1Z.out (Below.trans HC.out hw'))).1
    have k1 := (cells2 (heap_below Q1Z.out (Below.trans HC.out hw'))).2
    have m0 := (cells6 (heap_below Q2Z.out (Below.trans HC.out hw'))).1
    have m1 := (cells6 (heap_below Q2Z.out (Below.trans HC.out hw'))).2.1
    have m2 := (cells6 (heap_below Q2Z.out (Below.trans HC.out hw'))).2.2.1
    have m3 := (cells6 (heap_below Q2Z.out (Below.trans HC.out hw'))).2.2.2.1
    have m4 := (cells6 (heap_below Q2Z.out (Below.trans HC.out hw'))).2.2.2.2.1
    have m5 := (cells6 (heap_below Q2Z.out (Below.trans HC.out hw'))).2.2.2.2.2
    go_simp
    with_reducible rfl
  simp only [Act.put, List.setIfInBounds_toArray, List.set_cons_zero, List.set_cons_succ]
  -- 17: slot 41
  refine wpG_take (preBelow (wz.heap.size)) (i := 17) (v := ?_) (by kernel_rfl) (some 41) (by kernel_rfl) rfl (by kernel_rfl) (by kernel_rfl) (by kernel_rfl) (fun _ _ _ h => h) (by rfl) (fun w' hw' => ?_) rfl ?_
  rotate_left
  · have k0 := (cells2 (heap_below Q1Z.out (Below.trans HC.out hw'))).1
    have k1 := (cells2 (heap_below Q1Z.out (Below.trans HC.out hw'))).2
    have m0 := (cells6 (heap_below Q2Z.out (Below.trans HC.out hw'))).1
    have m1 := (cells6 (heap_below Q2Z.out (Below.trans HC.out hw'))).2.1
    have m2 := (cells6 (heap_below Q2Z.out (Below.trans HC.out hw'))).2.2.1
    have m3 := (cells6 (heap_below Q2Z.out (Below.trans HC.out hw'))).2.2.2.1
    have m4 := (cells6 (heap_below Q2Z.out (Below.trans HC.out hw'))).2.2.2.2.1
    have m5 := (cells6 (heap_below Q2Z.out (Below.trans HC.out hw'))).2.2.2.2.2
    go_simp
    with_reducible rfl
  simp only [Act.put, List.setIfInBounds_toArray, List.set_cons_zero, List.set_cons_succ]
  -- 20: slot 44
  refine wpG_take (preBelow (wz.heap.size)) (i := 20) (v := ?_) (by kernel_rfl) (some 44) (by kernel_rfl) rfl (by kernel_rfl) (by kernel_rfl) (by kernel_rfl) (fun _ _ _ h => h) (by rfl) (fun w' hw' => ?_) rfl ?_
  rotate_left
  · have k0 := (cells2 (heap_below Q1Z.out (Below.trans HC.out hw'))).1
    have k1 := (cells2 (heap_below Q1Z.out (Below.trans HC.out hw'))).2
    have m0 := (cells6 (heap_below Q2Z.out (Below.trans HC.out hw'))).1
    have m1 := (cells6 (heap_below Q2Z.out (Below.trans HC.out hw'))).2.1
    have m2 := (cells6 (heap_below Q2Z.out (Below.trans HC.out hw'))).2.2.1
    have m3 := (cells6 (heap_below Q2Z.out (Below.trans HC.out hw'))).2.2.2.1
    have m4 := (cells6 (heap_below Q2Z.out (Below.trans HC.out hw'))).2.2.2.2.1
    have m5 := (cells6 (heap_below Q2Z.out (Below.trans HC.out hw'))).2.2.2.2.2
    go_simp
    with_reducible rfl
  simp only [Act.put, List.setIfInBounds_toArray, List.set_cons_zero, List.set_cons_succ]
  refine wpG_one (i := 18) rfl (by kernel_rfl) (by rfl) ?_
  go_simp
  have hb : Below wc.heap.size wc (wc.alloc (.cells #[.int .u8 117] 5)) := (Below.refl _ _).alloc (Nat.le_refl _) _
  refine ⟨hb.mono HC.out.size, ?_⟩
  have hk : (wc.alloc (.cells #[.int .u8 117] 5)).heap[wc.heap.size]? = some (.cells #[.int .u8 117] 5 (0, 0)) := heap_alloc_last _ _
  have hgb : wz.heap.size ≤ wc.heap.size := HC.out.size
  generalize wc.alloc (.cells #[.int .u8 117] 5) = wn at hb hk ⊢
  have HC' : Hid (Gr wz wn) := Below.trans HC.out (hb.mono HC.out.size)
  clear HC
  have HC := HC'
  clear HC'
  obtain ⟨gc, hgc⟩ : ∃ g, g = wc.heap.size := ⟨_, rfl⟩
  rw [← hgc] at hk hgb ⊢
  have HK := Lib.hid hk
  have HGB := Lib.hid hgb
  clear hgc hb hk hgb
  obtain ⟨wc, hwc⟩ : ∃ x, x = wn := ⟨_, rfl⟩
  subst hwc
  try simp only [Act.put, List.setIfInBounds_toArray, List.set_cons_zero, List.set_cons_succ]
  refine wpG_one (i := 19) rfl (by kernel_rfl) (by rfl) ?_
  obtain ⟨wn, hrun, ho, hk⟩ := run_mark (P := Tryd.prog) wc 22 5 gc #[.int .u8 117] 1 1 HK.out Tryd.underlying22 Tryd.underlying5
  go_simp
  refine ⟨ho.below _ _ HGB.out (Below.refl _ _), ?_⟩
  have HC' : Hid (Gr wz wn) := ho.below _ _ HGB.out HC.out
  clear HC HK
  have HC := HC'
  have HK := Lib.hid hk
  clear HC' hk ho hrun
  obtain ⟨wc, hwc⟩ : ∃ x, x = wn := ⟨_, rfl⟩
  subst hwc
  try simp only [Act.put, List.setIfInBounds_toArray, List.set_cons_zero, List.set_cons_succ]
  refine wpG_one (i := 21) rfl (by kernel_rfl) (by rfl) ?_
  go_simp
  refine (HVAL.out 19 wc gc A 32 C y HYL.out HC.out HK.out (HOZ.out.below HC.out)).mono ?_
  rintro e wn ⟨rfl, hb⟩
  rw [H2.out]
  refine ⟨hb.mono HC.out.size, ?_⟩
  have HC' : Hid (Gr wz wn) := Below.trans HC.out (hb.mono HC.out.size)
  clear HC HK HGB hb
  have HC := HC'
  clear HC'
  obtain ⟨wc, hwc⟩ : ∃ x, x = wn := ⟨_, rfl⟩
  subst hwc
  try simp only [Act.put, List.setIfInBounds_toArray, List.set_cons_zero, List.set_cons_succ]
  -- 22: slot 46
  refine wpG_take (preBelow (wz.heap.size)) (i := 22) (v := ?_) (by kernel_rfl) (some 46) (by kernel_rfl) rfl (by kernel_rfl) (by kernel_rfl) (by kernel_rfl) (fun _ _ _ h => h) (by rfl) (fun w' hw' => ?_) rfl ?_
  rotate_left
  · have k0 := (cells2 (heap_below Q1Z.out (Below.trans HC.out hw'))).1
    have k1 := (cells2 (heap_below Q1Z.out (Below.trans HC.out hw'))).2
    have m0 := (cells6 (heap_below Q2Z.out (Below.trans HC.out hw'))).1
    have m1 := (cells6 (heap_below Q2Z.out (Below.trans HC.out hw'))).2.1
    have m2 := (cells6 (heap_below Q2Z.out (Below.trans HC.out hw'))).2.2.1
    have m3 := (cells6 (heap_below Q2Z.out (Below.trans HC.out hw'))).2.2.2.1
    have m4 := (cells6 (heap_below Q2Z.out (Below.trans HC.out hw'))).2.2.2.2.1
    have m5 := (cells6 (heap_below Q2Z.out (Below.trans HC.out hw'))).2.2.2.2.2
    go_simp
    with_reducible rfl
  simp only [Act.put, List.setIfInBounds_toArray, List.set_cons_zero, List.set_cons_succ]
  -- 23: slot 47
  refine wpG_take (preBelow (wz.heap.size)) (i := 23) (v := ?_) (by kernel_rfl) (some 47) (by kernel_rfl) rfl (by kernel_rfl) (by kernel_rfl) (by kernel_rfl) (fun _ _ _ h => h) (by rfl) (fun w' hw' => ?_) rfl ?_
  rotate_left
  · have k0 := (cells2 (heap_below Q1Z.out (Below.trans HC.out hw'))).1
    have k1 := (cells2 (heap_below Q1Z.out (Below.trans HC.out hw'))).2
    have m0 := (cells6 (heap_below Q2Z.out (Below.trans HC.out hw'))).1
    have m1 := (cells6 (heap_below Q2Z.out (Below.trans HC.out hw'))).2.1
    have m2 := (cells6 (heap_below Q2Z.out (Below.trans HC.out hw'))).2.2.1
    have m3 := (cells6 (heap_below Q2Z.out (Below.trans HC.out hw'))).2.2.2.1
    have m4 := (cells6 (heap_below Q2Z.out (Below.trans HC.out hw'))).2.2.2.2.1
    have m5 := (cells6 (heap_below Q2Z.out (Below.trans HC.out hw'))).2.2.2.2.2
    go_simp
    with_reducible rfl
  simp only [Act.put, List.setIfInBounds_toArray, List.set_cons_zero, List.set_cons_succ]
  -- 24: slot 48
  refine wpG_take (preBelow (wz.heap.size)) (i := 24) (v := ?_) (by kernel_rfl) (some 48) (by kernel_rfl) rfl (by kernel_rfl) (by kernel_rfl) (by kernel_rfl) (fun _ _ _ h => h) (by rfl) (fun w' hw' => ?_) rfl ?_
  rotate_left
  · have k0 := (cells2 (heap_below Q1Z.out (Below.trans HC.out hw'))).1
    have k1 := (cells2 (heap_below Q1Z.out (Below.trans HC.out hw'))).2
    have m0 := (cells6 (heap_below Q2Z.out (Below.trans HC.out hw'))).1
    have m1 := (cells6 (heap_below Q2Z.out (Below.trans HC.out hw'))).2.1
    have m2 := (cells6 (heap_below Q2Z.out (Below.trans HC.out hw'))).2.2.1
    have m3 := (cells6 (heap_below Q2Z.out (Below.trans HC.out hw'))).2.2.2.1
    have m4 := (cells6 (heap_below Q2Z.out (Below.trans HC.out hw'))).2.2.2.2.1
    have m5 := (cells6 (heap_below Q2Z.out (Below.trans HC.out hw'))).2.2.2.2.2
    go_simp
    with_reducible rfl
  simp only [Act.put, List.setIfInBounds_toArray, List.set_cons_zero, List.set_cons_succ]
  -- 25: slot 49
  refine wpG_take (preBelow (wz.heap.size)) (i := 25) (v := ?_) (by kernel_rfl) (some 49) (by kernel_rfl) rfl (by kernel_rfl) (by kernel_rfl) (by kernel_rfl) (fun _ _ _ h => h) (by rfl) (fun w' hw' => ?_) rfl ?_
  rotate_left
  · have k0 := (cells2 (heap_below Q1Z.out (Below.trans HC.out hw'))).1
    have k1 := (cells2 (heap_below Q1Z.out (Below.trans HC.out hw'))).2
    have m0 := (cells6 (heap_below Q2Z.out (Below.trans HC.out hw'))).1
    have m1 := (cells6 (heap_below Q2Z.out (Below.trans HC.out hw'))).2.1
    have m2 := (cells6 (heap_below Q2Z.out (Below.trans HC.out hw'))).2.2.1
    have m3 := (cells6 (heap_below Q2Z.out (Below.trans HC.out hw'))).2.2.2.1
    have m4 := (cells6 (heap_below Q2Z.out (Below.trans HC.out hw'))).2.2.2.2.1
    have m5 := (cells6 (heap_below Q2Z.out (Below.trans HC.out hw'))).2.2.2.2.2
    go_simp
    with_reducible rfl
  simp only [Act.put, List.setIfInBounds_toArray, List.set_cons_zero, List.set_cons_succ]
  -- 28: slot 52
  refine wpG_take (preBelow (wz.heap.size)) (i := 28) (v := ?_) (by kernel_rfl) (some 52) (by kernel_rfl) rfl (by kernel_rfl) (by kernel_rfl) (by kernel_rfl) (fun _ _ _ h => h) (by rfl) (fun w' hw' => ?_) rfl ?_
  rotate_left
  · have k0 := (cells2 (heap_below Q1Z.out (Below.trans HC.out hw'))).1
    have k1 := (cells2 (heap_below Q1Z.out (Below.trans HC.out hw'))).2
    have m0 := (cells6 (heap_below Q2Z.out (Below.trans HC.out hw'))).1
    have m1 := (cells6 (heap_below Q2Z.out (Below.trans HC.out hw'))).2.1
    have m2 := (cells6 (heap_below Q2Z.out (Below.trans HC.out hw'))).2.2.1
    have m3 := (cells6 (heap_below Q2Z.out (Below.trans HC.out hw'))).2.2.2.1
    have m4 := (cells6 (heap_below Q2Z.out (Below.trans HC.out hw'))).2.2.2.2.1
    have m5 := (cells6 (heap_below Q2Z.out (Below.trans HC.out hw'))).2.2.2.2.2
    go_simp
    with_reducible rfl
  simp only [Act.put, List.setIfInBounds_toArray, List.set_cons_zero, List.set_cons_succ]
  -- 29: slot 53
  refine wpG_take (preBelow (wz.heap.size)) (i := 29) (v := ?_) (by kernel_rfl) (some 53) (by kernel_rfl) rfl (by kernel_rfl) (by kernel_rfl) (by kernel_rfl) (fun _ _ _ h => h) (by rfl) (fun w' hw' => ?_) rfl ?_
  rotate_left
  · have k0 := (cells2 (heap_below Q1Z.out (Below.trans HC.out hw'))).1
    have k1 := (cells2 (heap_below Q1Z.out (Below.trans HC.out hw'))).2
    have m0 := (cells6 (heap_below Q2Z.out (Below.trans HC.out hw'))).1
    have m1 := (cells6 (heap_below Q2Z.out (Below.trans HC.out hw'))).2.1
    have m2 := (cells6 (heap_below Q2Z.out (Below.trans HC.out hw'))).2.2.1
    have m3 := (cells6 (heap_below Q2Z.out (Below.trans HC.out hw'))).2.2.2.1
    have m4 := (cells6 (heap_below Q2Z.out (Below.trans HC.out hw'))).2.2.2.2.1
    have m5 := (cells6 (heap_below Q2Z.out (Below.trans HC.out hw'))).2.2.2.2.2
    go_simp
    with_reducible rfl
  simp only [Act.put, List.setIfInBounds_toArray, List.set_cons_zero, List.set_cons_succ]
  refine wpG_one (i := 26) rfl (by kernel_rfl) (by rfl) ?_
  go_simp
  have hb : Below wc.heap.size wc (wc.alloc (.cells #[.int .u8 117] 5)) := (Below.refl _ _).alloc (Nat.le_refl _) _
  refine ⟨hb.mono HC.out.size, ?_⟩
  have hk : (wc.alloc (.cells #[.int .u8 117] 5)).heap[wc.heap.size]? = some (.cells #[.int .u8 117] 5 (0, 0)) := heap_alloc_last _ _
  have hgb : wz.heap.size ≤ wc.heap.size := HC.out.size
  generalize wc.alloc (.cells #[.int .u8 117] 5) = wn at hb hk ⊢
  have HC' : Hid (Gr wz wn) := Below.trans HC.out (hb.mono HC.out.size)
  clear HC
  have HC := HC'
  clear HC'
  obtain ⟨gc, hgc⟩ : ∃ g, g = wc.heap.size := ⟨_, rfl⟩
  rw [← hgc] at hk hgb ⊢
  have HK := Lib.hid hk
  have HGB := Lib.hid hgb
  clear hgc hb hk hgb
  obtain ⟨wc, hwc⟩ : ∃ x, x = wn := ⟨_, rfl⟩
  subst hwc
  try simp only [Act.put, List.setIfInBounds_toArray, List.set_cons_zero, List.set_cons_succ]
  refine wpG_one (i := 27) rfl (by kernel_rfl) (by rfl) ?_
  obtain ⟨wn, hrun, ho, hk⟩ := run_mark (P := Tryd.prog) wc 22 5 gc #[.int .u8 117] 1 1 HK.out Tryd.underlying22 Tryd.underlying5
  go_simp
  refine ⟨ho.below _ _ HGB.out (Below.refl _ _), ?_⟩
  have HC' : Hid (Gr wz wn) := ho.below _ _ HGB.out HC.out
  clear HC HK
  have HC := HC'
  have HK := Lib.hid hk
  clear HC' hk ho hrun
  obtain ⟨wc, hwc⟩ : ∃ x, x = wn := ⟨_, rfl⟩
  subst hwc
  try simp only [Act.put, List.setIfInBounds_toArray, List.set_cons_zero, List.set_cons_succ]
  refine wpG_one (i := 30) rfl (by kernel_rfl) (by rfl) ?_
  go_simp
  refine (HVAL.out 9 wc gc a7 31 (C - 1) (y.drop 1) HD7.out HC.out HK.out (HRZ.out.below HC.out)).mono ?_
  rintro e wn ⟨rfl, hb⟩
  rw [H3.out]
  refine ⟨hb.mono HC.out.size, ?_⟩
  have HC' : Hid (Gr wz wn) := Below.trans HC.out (hb.mono HC.out.size)
  clear HC HK HGB hb
  have HC := HC'
  clear HC'
  obtain ⟨wc, hwc⟩ : ∃ x, x = wn := ⟨_, rfl⟩
  subst hwc
  try simp only [Act.put, List.setIfInBounds_toArray, List.set_cons_zero, List.set_cons_succ]
  -- 31: slot 55
  refine wpG_take (preBelow (wz.heap.size)) (i := 31) (v := ?_) (by kernel_rfl) (some 55) (by kernel_rfl) rfl (by kernel_rfl) (by kernel_rfl) (by kernel_rfl) (fun _ _ _ h => h) (by rfl) (fun w' hw' => ?_) rfl ?_
  rotate_left
  · have k0 := (cells2 (heap_below Q1Z.out (Below.trans HC.out hw'))).1
    have k1 := (cells2 (heap_below Q1Z.out (Below.trans HC.out hw'))).2
    have m0 := (cells6 (heap_below Q2Z.out (Below.trans HC.out hw'))).1
    have m1 := (cells6 (heap_below Q2Z.out (Below.trans HC.out hw'))).2.1
    have m2 := (cells6 (heap_below Q2Z.out (Below.trans HC.out hw'))).2.2.1
    have m3 := (cells6 (heap_below Q2Z.out (Below.trans HC.out hw'))).2.2.2.1
    have m4 := (cells6 (heap_below Q2Z.out (Below.trans HC.out hw'))).2.2.2.2.1
    have m5 := (cells6 (heap_below Q2Z.out (Below.trans HC.out hw'))).2.2.2.2.2
    go_simp
    with_reducible rfl
  simp only [Act.put, List.setIfInBounds_toArray, List.set_cons_zero, List.set_cons_succ]
  -- 32: slot 56
  refine wpG_take (preBelow (wz.heap.size)) (i := 32) (v := ?_) (by kernel_rfl) (some 56) (by kernel_rfl) rfl (by kernel_rfl) (by kernel_rfl) (by kernel_rfl) (fun _ _ _ h => h) (by rfl) (fun w' hw' => ?_) rfl ?_
  rotate_left
  · have k0 := (cells2 (heap_below Q1Z.out (Below.trans HC.out hw'))).1
    have k1 := (cells2 (heap_below Q1Z.out (Below.trans HC.out hw'))).2
    have m0 := (cells6 (heap_below Q2Z.out (Below.trans HC.out hw'))).1
    have m1 := (cells6 (heap_below Q2Z.out (Below.trans HC.out hw'))).2.1
    have m2 := (cells6 (heap_below Q2Z.out (Below.trans HC.out hw'))).2.2.1
    have m3 := (cells6 (heap_below Q2Z.out (Below.trans HC.out hw'))).2.2.2.1
    have m4 := (cells6 (heap_below Q2Z.out (Below.trans HC.out hw'))).2.2.2.2.1
    have m5 := (cells6 (heap_below Q2Z.out (Below.trans HC.out hw'))).2.2.2.2.2
    go_simp
    with_reducible rfl
  simp only [Act.put, List.setIfInBounds_toArray, List.set_cons_zero, List.set_cons_succ]
  -- 33: slot 57
  refine wpG_take (preBelow (wz.heap.size)) (i := 33) (v := ?_) (by kernel_rfl) (some 57) (by kernel_rfl) rfl (by kernel_rfl) (by kernel_rfl) (by kernel_rfl) (fun _ _ _ h => h) (by rfl) (fun w' hw' => ?_) rfl ?_
  rotate_left
  · have k0 := (cells2 (heap_below Q1Z.out (Below.trans HC.out hw'))).1
    have k1 := (cells2 (heap_below Q1Z.out (Below.trans HC.out hw'))).2
    have m0 := (cells6 (heap_below Q2Z.out (Below.trans HC.out hw'))).1
    have m1 := (cells6 (heap_below Q2Z.out (Below.trans HC.out hw'))).2.1
    have m2 := (cells6 (heap_below Q2Z.out (Below.trans HC.out hw'))).2.2.1
    have m3 := (cells6 (heap_below Q2Z.out (Below.trans HC.out hw'))).2.2.2.1
    have m4 := (cells6 (heap_below Q2Z.out (Below.trans HC.out hw'))).2.2.2.2.1
    have m5 := (cells6 (heap_below Q2Z.out (Below.trans HC.out hw'))).2.2.2.2.2
    go_simp
    with_reducible rfl
  simp only [Act.put, List.setIfInBounds_toArray, List.set_cons_zero, List.set_cons_succ]
  -- 34: slot 58
  refine wpG_take (preBelow (wz.heap.size)) (i := 34) (v := ?_) (by kernel_rfl) (some 58) (by kernel_rfl) rfl (by kernel_rfl) (by kernel_rfl) (by kernel_rfl) (fun _ _ _ h => h) (by rfl) (fun w' hw' => ?_) rfl ?_
  rotate_left
  · have k0 := (cells2 (heap_below Q1Z.out (Below.trans HC.out hw'))).1
    have k1 := (cells2 (heap_below Q1Z.out (Below.trans HC.out hw'))).2
    have m0 := (cells6 (heap_below Q2Z.out (Below.trans HC.out hw'))).1
    have m1 := (cells6 (heap_below Q2Z.out (Below.trans HC.out hw'))).2.1
    have m2 := (cells6 (heap_below Q2Z.out (Below.trans HC.out hw'))).2.2.1
    have m3 := (cells6 (heap_below Q2Z.out (Below.trans HC.out hw'))).2.2.2.1
    have m4 := (cells6 (heap_below Q2Z.out (Below.trans HC.out hw'))).2.2.2.2.1
    have m5 := (cells6 (heap_below Q2Z.out (Below.trans HC.out hw'))).2.2.2.2.2
    go_simp
    with_reducible rfl
  simp only [Act.put, List.setIfInBounds_toArray, List.set_cons_zero, List.set_cons_succ]
  -- 35: slot 59
  refine wpG_take (preBelow (wz.heap.size)) (i := 35) (v := ?_) (by kernel_rfl) (some 59) (by kernel_rfl) rfl (by kernel_rfl) (by kernel_rfl) (by kernel_rfl) (fun _ _ _ h => h) (by rfl) (fun w' hw' => ?_) rfl ?_
  rotate_left
  · have k0 := (cells2 (heap_below Q1Z.out (Below.trans HC.out hw'))).1
    have k1 := (cells2 (heap_below Q1Z.out (Below.trans HC.out hw'))).2
    have m0 := (cells6 (heap_below Q2Z.out (Below.trans HC.out hw'))).1
    have m1 := (cells6 (heap_below Q2Z.out (Below.trans HC.out hw'))).2.1
    have m2 := (cells6 (heap_below Q2Z.out (Below.trans HC.out hw'))).2.2.1
    have m3 := (cells6 (heap_below Q2Z.out (Below.trans HC.out hw'))).2.2.2.1
    have m4 := (cells6 (heap_below Q2Z.out (Below.trans HC.out hw'))).2.2.2.2.1
    have m5 := (cells6 (heap_below Q2Z.out (Below.trans HC.out hw'))).2.2.2.2.2
    go_simp
    with_reducible rfl
  simp only [Act.put, List.setIfInBounds_toArray, List.set_cons_zero, List.set_cons_succ]
  -- 36: slot 60
  refine wpG_take (preBelow (wz.heap.size)) (i := 36) (v := ?_) (by kernel_rfl) (some 60) (by kernel_rfl) rfl (by kernel_rfl) (by kernel_rfl) (by kernel_rfl) (fun _ _ _ h => h) (by rfl) (fun w' hw' => ?_) rfl ?_
  rotate_left
  · have k0 := (cells2 (heap_below Q1Z.out (Below.trans HC.out hw'))).1
    have k1 := (cells2 (heap_below Q1Z.out (Below.trans HC.out hw'))).2
    have m0 := (cells6 (heap_below Q2Z.out (Below.trans HC.out hw'))).1
    have m1 := (cells6 (heap_below Q2Z.out (Below.trans HC.out hw'))).2.1
    have m2 := (cells6 (heap_below Q2Z.out (Below.trans HC.out hw'))).2.2.1
    have m3 := (cells6 (heap_below Q2Z.out (Below.trans HC.out hw'))).2.2.2.1
    have m4 := (cells6 (heap_below Q2Z.out (Below.trans HC.out hw'))).2.2.2.2.1
    have m5 := (cells6 (heap_below Q2Z.out (Below.trans HC.out hw'))).2.2.2.2.2
    go_simp
    with_reducible rfl
  simp only [Act.put, List.setIfInBounds_toArray, List.set_cons_zero, List.set_cons_succ]
  -- 37: slot 61
  refine wpG_take (preBelow (wz.heap.size)) (i := 37) (v := ?_) (by kernel_rfl) (some 61) (by kernel_rfl) rfl (by kernel_rfl) (by kernel_rfl) (by kernel_rfl) (fun _ _ _ h => h) (by rfl) (fun w' hw' => ?_) rfl ?_
  rotate_left
  · have k0 := (cells2 (heap_below Q1Z.out (Below.trans HC.out hw'))).1
    have k1 := (cells2 (heap_below Q1Z.out (Below.trans HC.out hw'))).2
    have m0 := (cells6 (heap_below Q2Z.out (Below.trans HC.out hw'))).1
    have m1 := (cells6 (heap_below Q2Z.out (Below.trans HC.out hw'))).2.1
    have m2 := (cells6 (heap_below Q2Z.out (Below.trans HC.out hw'))).2.2.1
    have m3 := (cells6 (heap_below Q2Z.out (Below.trans HC.out hw'))).2.2.2.1
    have m4 := (cells6 (heap_below Q2Z.out (Below.trans HC.out hw'))).2.2.2.2.1
    have m5 := (cells6 (heap_below Q2Z.out (Below.trans HC.out hw'))).2.2.2.2.2
    go_simp
    with_reducible rfl
  simp only [Act.put, List.setIfInBounds_toArray, List.set_cons_zero, List.set_cons_succ]
  -- 38: slot 62
  refine wpG_take (preBelow (wz.heap.size)) (i := 38) (v := ?_) (by kernel_rfl) (some 62) (by kernel_rfl) rfl (by kernel_rfl) (by kernel_rfl) (by kernel_rfl) (fun _ _ _ h => h) (by rfl) (fun w' hw' => ?_) rfl ?_
  rotate_left
  · have k0 := (cells2 (heap_below Q1Z.out (Below.trans HC.out hw'))).1
    have k1 := (cells2 (heap_below Q1Z.out (Below.trans HC.out hw'))).2
    have m0 := (cells6 (heap_below Q2Z.out (Below.trans HC.out hw'))).1
    have m1 := (cells6 (heap_below Q2Z.out (Below.trans HC.out hw'))).2.1
    have m2 := (cells6 (heap_below Q2Z.out (Below.trans HC.out hw'))).2.2.1
    have m3 := (cells6 (heap_below Q2Z.out (Below.trans HC.out hw'))).2.2.2.1
    have m4 := (cells6 (heap_below Q2Z.out (Below.trans HC.out hw'))).2.2.2.2.1
    have m5 := (cells6 (heap_below Q2Z.out (Below.trans HC.out hw'))).2.2.2.2.2
    go_simp
    with_reducible rfl
  simp only [Act.put, List.setIfInBounds_toArray, List.set_cons_zero, List.set_cons_succ]
  -- 39: slot 63
  refine wpG_take (preBelow (wz.heap.size)) (i := 39) (v := ?_) (by kernel_rfl) (some 63) (by kernel_rfl) rfl (by kernel_rfl) (by kernel_rfl) (by kernel_rfl) (fun _ _ _ h => h) (by rfl) (fun w' hw' => ?_) rfl ?_
  rotate_left
  · have k0 := (cells2 (heap_below Q1Z.out (Below.trans HC.out hw'))).1
    have k1 := (cells2 (heap_below Q1Z.out (Below.trans HC.out hw'))).2
    have m0 := (cells6 (heap_below Q2Z.out (Below.trans HC.out hw'))).1
    have m1 := (cells6 (heap_below Q2Z.out (Below.trans HC.out hw'))).2.1
    have m2 := (cells6 (heap_below Q2Z.out (Below.trans HC.out hw'))).2.2.1
    have m3 := (cells6 (heap_below Q2Z.out (Below.trans HC.out hw'))).2.2.2.1
    have m4 := (cells6 (heap_below Q2Z.out (Below.trans HC.out hw'))).2.2.2.2.1
    have m5 := (cells6 (heap_below Q2Z.out (Below.trans HC.out hw'))).2.2.2.2.2
    go_simp
    with_reducible rfl
  simp only [Act.put, List.setIfInBounds_toArray, List.set_cons_zero, List.set_cons_succ]
  -- 40: slot 64
  refine wpG_take (preBelow (wz.heap.size)) (i := 40) (v := ?_) (by kernel_rfl) (some 64) (by kernel_rfl) rfl (by kernel_rfl) (by kernel_rfl) (by kernel_rfl) (fun _ _ _ h => h) (by rfl) (fun w' hw' => ?_) rfl ?_
  rotate_left
  · have k0 := (cells2 (heap_below Q1Z.out (Below.trans HC.out hw'))).1
    have k1 := (cells2 (heap_below Q1Z.out (Below.trans HC.out hw'))).2
    have m0 := (cells6 (heap_below Q2Z.out (Below.trans HC.out hw'))).1
    have m1 := (cells6 (heap_below Q2Z.out (Below.trans HC.out hw'))).2.1
    have m2 := (cells6 (heap_below Q2Z.out (Below.trans HC.out hw'))).2.2.1
    have m3 := (cells6 (heap_below Q2Z.out (Below.trans HC.out hw'))).2.2.2.1
    have m4 := (cells6 (heap_below Q2Z.out (Below.trans HC.out hw'))).2.2.2.2.1
    have m5 := (cells6 (heap_below Q2Z.out (Below.trans HC.out hw'))).2.2.2.2.2
    go_simp
    with_reducible rfl
  simp only [Act.put, List.setIfInBounds_toArray, List.set_cons_zero, List.set_cons_succ]
  -- 41: slot 65
  refine wpG_take (preBelow (wz.heap.size)) (i := 41) (v := ?_) (by kernel_rfl) (some 65) (by kernel_rfl) rfl (by kernel_rfl) (by kernel_rfl) (by kernel_rfl) (fun _ _ _ h => h) (by rfl) (fun w' hw' => ?_) rfl ?_
  rotate_left
  · have k0 := (cells2 (heap_below Q1Z.out (Below.trans HC.out hw'))).1
    have k1 := (cells2 (heap_below Q1Z.out (Below.trans HC.out hw'))).2
    have m0 := (cells6 (heap_below Q2Z.out (Below.trans HC.out hw'))).1
    have m1 := (cells6 (heap_below Q2Z.out (Below.trans HC.out hw'))).2.1
    have m2 := (cells6 (heap_below Q2Z.out (Below.trans HC.out hw'))).2.2.1
    have m3 := (cells6 (heap_below Q2Z.out (Below.trans HC.out hw'))).2.2.2.1
    have m4 := (cells6 (heap_below Q2Z.out (Below.trans HC.out hw'))).2.2.2.2.1
    have m5 := (cells6 (heap_below Q2Z.out (Below.trans HC.out hw'))).2.2.2.2.2
    go_simp
    with_reducible rfl
  simp only [Act.put, List.setIfInBounds_toArray, List.set_cons_zero, List.set_cons_succ]
  -- 42: slot 66
  refine wpG_take (preBelow (wz.heap.size)) (i := 42) (v := ?_) (by kernel_rfl) (some 66) (by kernel_rfl) rfl (by kernel_rfl) (by kernel_rfl) (by kernel_rfl) (fun _ _ _ h => h) (by rfl) (fun w' hw' => ?_) rfl ?_
  rotate_left
  · have k0 := (cells2 (heap_below Q1Z.out (Below.trans HC.out hw'))).1
    have k1 := (cells2 (heap_below Q1Z.out (Below.trans HC.out hw'))).2
    have m0 := (cells6 (heap_below Q2Z.out (Below.trans HC.out hw'))).1
    have m1 := (cells6 (heap_below Q2Z.out (Below.trans HC.out hw'))).2.1
    have m2 := (cells6 (heap_below Q2Z.out (Below.trans HC.out hw'))).2.2.1
    have m3 := (cells6 (heap_below Q2Z.out (Below.trans HC.out hw'))).2.2.2.1
    have m4 := (cells6 (heap_below Q2Z.out (Below.trans HC.out hw'))).2.2.2.2.1
    have m5 := (cells6 (heap_below Q2Z.out (Below.trans HC.out hw'))).2.2.2.2.2
    go_simp
    with_reducible rfl
  simp only [Act.put, List.setIfInBounds_toArray, List.set_cons_zero, List.set_cons_succ]
  refine wpG_one (i := 43) rfl (by kernel_rfl) (by rfl) ?_
  go_simp
  refine (check_any none 0 0 [] rfl 0 wc).mono ?_
  rintro e wn ⟨rfl, hb⟩
  have hz90 : ckE [] 0 = 90 := ex_none
  rw [hz90]
  refine ⟨hb.mono HC.out.size, ?_⟩
  have HC' : Hid (Gr wz wn) := Below.trans HC.out (hb.mono HC.out.size)
  clear HC hb hz90
  have HC := HC'
  clear HC'
  obtain ⟨wc, hwc⟩ : ∃ x, x = wn := ⟨_, rfl⟩
  subst hwc
  try simp only [Act.put, List.setIfInBounds_toArray, List.set_cons_zero, List.set_cons_succ]
  -- 44: slot 68
  refine wpG_take (preBelow (wz.heap.size)) (i := 44) (v := ?_) (by kernel_rfl) (some 68) (by kernel_rfl) rfl (by kernel_rfl) (by kernel_rfl) (by kernel_rfl) (fun _ _ _ h => h) (by rfl) (fun w' hw' => ?_) rfl ?_
  rotate_left
  · have k0 := (cells2 (heap_below Q1Z.out (Below.trans HC.out hw'))).1
    have k1 := (cells2 (heap_below Q1Z.out (Below.trans HC.out hw'))).2
    have m0 := (cells6 (heap_below Q2Z.out (Below.trans HC.out hw'))).1
    have m1 := (cells6 (heap_below Q2Z.out (Below.trans HC.out hw'))).2.1
    have m2 := (cells6 (heap_below Q2Z.out (Below.trans HC.out hw'))).2.2.1
    have m3 := (cells6 (heap_below Q2Z.out (Below.trans HC.out hw'))).2.2.2.1
    have m4 := (cells6 (heap_below Q2Z.out (Below.trans HC.out hw'))).2.2.2.2.1
    have m5 := (cells6 (heap_below Q2Z.out (Below.trans HC.out hw'))).2.2.2.2.2
    go_simp
    with_reducible rfl
  simp only [Act.put, List.setIfInBounds_toArray, List.set_cons_zero, List.set_cons_succ]
  -- 45: slot 69
  refine wpG_take (preBelow (wz.heap.size)) (i := 45) (v := ?_) (by kernel_rfl) (some 69) (by kernel_rfl) rfl (by kernel_rfl) (by kernel_rfl) (by kernel_rfl) (fun _ _ _ h => h) (by rfl) (fun w' hw' => ?_) rfl ?_
  rotate_left
  · have k0 := (cells2 (heap_below Q1Z.out (Below.trans HC.out hw'))).1
    have k1 := (cells2 (heap_below Q1Z.out (Below.trans HC.out hw'))).2
    have m0 := (cells6 (heap_below Q2Z.out (Below.trans HC.out hw'))).1
    have m1 := (cells6 (heap_below Q2Z.out (Below.trans HC.out hw'))).2.1
    have m2 := (cells6 (heap_below Q2Z.out (Below.trans HC.out hw'))).2.2.1
    have m3 := (cells6 (heap_below Q2Z.out (Below.trans HC.out hw'))).2.2.2.1
    have m4 := (cells6 (heap_below Q2Z.out (Below.trans HC.out hw'))).2.2.2.2.1
    have m5 := (cells6 (heap_below Q2Z.out (Below.trans HC.out hw'))).2.2.2.2.2
    go_simp
    with_reducible rfl
  simp only [Act.put, List.setIfInBounds_toArray, List.set_cons_zero, List.set_cons_succ]
  -- 46: slot 0
  refine wpG_take (preBelow (wz.heap.size)) (i := 46) (v := ?_) (by kernel_rfl) (some 0) (by kernel_rfl) rfl (by kernel_rfl) (by kernel_rfl) (by kernel_rfl) (fun _ _ _ h => h) (by rfl) (fun w' hw' => ?_) rfl ?_
  rotate_left
  · have k0 := (cells2 (heap_below Q1Z.out (Below.trans HC.out hw'))).1
    have k1 := (cells2 (heap_below Q1Z.out (Below.trans HC.out hw'))).2
    have m0 := (cells6 (heap_below Q2Z.out (Below.trans HC.out hw'))).1
    have m1 := (cells6 (heap_below Q2Z.out (Below.trans HC.out hw'))).2.1
    have m2 := (cells6 (heap_below Q2Z.out (Below.trans HC.out hw'))).2.2.1
    have m3 := (cells6 (heap_below Q2Z.out (Below.trans HC.out hw'))).2.2.2.1
    have m4 := (cells6 (heap_below Q2Z.out (Below.trans HC.out hw'))).2.2.2.2.1
    have m5 := (cells6 (heap_below Q2Z.out (Below.trans HC.out hw'))).2.2.2.2.2
    go_simp
    with_reducible rfl
  simp only [Act.put, List.setIfInBounds_toArray, List.set_cons_zero, List.set_cons_succ]
  refine wpG_done (by kernel_rfl) ?_ _
  go_wp2
  go_ret
  exact ⟨rfl, HBZ.out.trans (Below.mono HC.out HBZ.out.size)⟩
end Go.Proofs.YtjlacialbfhjcaaDoor.Ck
