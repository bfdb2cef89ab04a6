/-
  Two options, two rows of options: the document's One, Same; opts.equal, opts.Same.
-/
import Derived.Test.YteemcckfhadkhaaOpA
namespace Go.Proofs.Yteemcckfhadkhaa.O
open Go.RowKit
set_option linter.unusedVariables false
set_option linter.unusedSimpArgs false

theorem bytes_ne {l m : List UInt8} (h : ¬ l = m) : (l == m) = false := beq_eq_false_iff_ne.2 h
theorem bytesEqual_any (a b : Option Addr) (n n' c c' : Nat) (l m : List UInt8) (w : World) (h : Bs w (.slice a n c) l) (h' : Bs w (.slice b n' c') m) :
    Calls Try.prog 40 #[.slice a n c, .slice b n' c'] w fun e w' => e = .returned (.bool (decide (l = m))) ∧ w = w' := by
  have s1 := run_string_of (P := Try.prog) 23 9 5 Try.underlying23 Try.underlying5 Try.underlying9 h
  have s2 := run_string_of (P := Try.prog) 23 9 5 Try.underlying23 Try.underlying5 Try.underlying9 h'
  by_cases hd : l = m
  · have e : decide (l = m) = true := decide_eq_true hd
    rw [e]
    subst hd
    clear h h' e
    go_enter Try.func40, Try.ntmps40
    go_wp2
    go_ret
    exact ⟨rfl, rfl⟩
  · have e : decide (l = m) = false := decide_eq_false hd
    rw [e]
    have hb := bytes_ne hd
    clear h h' hd e
    go_enter Try.func40, Try.ntmps40
    go_wp2
    go_ret
    exact ⟨rfl, rfl⟩
theorem one_any (T U : Int) (a b : Option Addr) (n n' c c' : Nat) (l m : List UInt8) (w : World) (h : Bs w (.slice a n c) l) (h' : Bs w (.slice b n' c') m) :
    Calls Try.prog 22 #[.agg #[.int .i64 T, .slice a n c], .agg #[.int .i64 U, .slice b n' c']] w fun e w' => e = .returned (.bool (decide ((T, l) = (U, m)))) ∧ Below w.heap.size w w' := by
  have hb : Below w.heap.size w ((w.alloc (.cells #[.int .i64 T, .slice a n c] 36)).alloc (.cells #[.int .i64 U, .slice b n' c'] 36)) := ((Below.refl _ _).alloc (Nat.le_refl _) _).alloc (by simp) _
  have s1 := run_string_of (P := Try.prog) 23 9 5 Try.underlying23 Try.underlying5 Try.underlying9 (h.below hb)
  have s2 := run_string_of (P := Try.prog) 23 9 5 Try.underlying23 Try.underlying5 Try.underlying9 (h'.below hb)
  have HB := Lib.hid hb
  clear h h' hb
  by_cases hT : T = U
  · subst hT
    by_cases hd : l = m
    · have e : decide ((T, l) = (T, m)) = true := decide_eq_true (by rw [hd])
      rw [e]
      subst hd
      clear e
      go_enter Try.func22, Try.ntmps22
      go_wp2
      go_ret
      exact ⟨rfl, HB.out⟩
    · have e : decide ((T, l) = (T, m)) = false := decide_eq_false (fun e => hd (congrArg Prod.snd e))
      rw [e]
      have hb := bytes_ne hd
      clear hd e
      go_enter Try.func22, Try.ntmps22
      go_wp2
      go_ret
      exact ⟨rfl, HB.out⟩
  · have e : decide ((T, l) = (U, m)) = false := decide_eq_false (fun e => hT (congrArg Prod.fst e))
    rw [e]
    have hb : (T == U) = false := beq_eq_false_iff_ne.2 hT
    clear hT e s1 s2
    go_enter Try.func22, Try.ntmps22
    go_wp2
    go_ret
    exact ⟨rfl, HB.out⟩
theorem equal_any (T U : Int) (a b : Option Addr) (n n' c c' : Nat) (l m : List UInt8) (w : World) (h : Bs w (.slice a n c) l) (h' : Bs w (.slice b n' c') m) :
    Calls Try.prog 36 #[.agg #[.int .i64 T, .slice a n c], .agg #[.int .i64 U, .slice b n' c']] w fun e w' => e = .returned (.bool (decide ((T, l) = (U, m)))) ∧ Below w.heap.size w w' := by
  have hb : Below w.heap.size w ((w.alloc (.cells #[.int .i64 T, .slice a n c] 36)).alloc (.cells #[.int .i64 U, .slice b n' c'] 36)) := ((Below.refl _ _).alloc (Nat.le_refl _) _).alloc (by simp) _
  have BE := Lib.hid (bytesEqual_any a b n n' c c' l m _ (h.below hb) (h'.below hb))
  have HB := Lib.hid hb
  clear h h' hb
  by_cases hT : T = U
  · subst hT
    have e : decide ((T, l) = (T, m)) = decide (l = m) := by rw [Bool.eq_iff_iff]; simp
    rw [e]
    generalize decide (l = m) = q at BE ⊢
    go_enter Try.func36, Try.ntmps36
    go_wp2_with fail
    refine BE.out.mono ?_
    rintro e w1 ⟨rfl, rfl⟩
    go_wp2
    go_ret
    exact ⟨rfl, HB.out⟩
  · have e : decide ((T, l) = (U, m)) = false := decide_eq_false (fun e => hT (congrArg Prod.fst e))
    rw [e]
    have hb : (T == U) = false := beq_eq_false_iff_ne.2 hT
    clear hT e BE
    go_enter Try.func36, Try.ntmps36
    go_wp2
    go_ret
    exact ⟨rfl, HB.out⟩

/-- Those that have been looked at are the same. -/
def Alike (ts us : List Tg) (k : Nat) : Prop := (plain ts).take k = (plain us).take k
theorem Alike.zero (ts us : List Tg) : Alike ts us 0 := rfl
theorem Alike.next {ts us : List Tg} {k : Nat} (h : Alike ts us k) (h1 : k < ts.length) (h2 : k < us.length) (e : (ts[k].typ, ts[k].l) = (us[k].typ, us[k].l)) : Alike ts us (k + 1) := by
  unfold Alike at *
  rw [List.take_succ_eq_append_getElem (by rw [plain_length]; exact h1), List.take_succ_eq_append_getElem (by rw [plain_length]; exact h2), h, plain_get ts k h1, plain_get us k h2, e]
theorem Alike.all {ts us : List Tg} {n : Nat} (h : Alike ts us n) (h1 : ts.length = n) (h2 : us.length = n) : plain ts = plain us := by
  unfold Alike at h
  rwa [List.take_of_length_le (by rw [plain_length]; omega), List.take_of_length_le (by rw [plain_length]; omega)] at h
theorem plain_at {ts us : List Tg} (h : plain ts = plain us) (i : Nat) (h1 : i < ts.length) (h2 : i < us.length) : (ts[i].typ, ts[i].l) = (us[i].typ, us[i].l) := by
  have e1 := plain_get ts i h1
  have e2 := plain_get us i h2
  have h3 : (plain ts)[i]'(by rw [plain_length]; exact h1) = (plain us)[i]'(by rw [plain_length]; exact h2) := by simp only [h]
  rw [e1, e2] at h3
  exact h3
theorem plain_len {ts us : List Tg} (h : plain ts = plain us) : ts.length = us.length := by
  have := congrArg List.length h; rwa [plain_length, plain_length] at this

set_option maxHeartbeats 1000000 in
theorem rsame_any (ao bo : Option Addr) (n n' c c' : Nat) (ts us : List Tg) (w : World) (hr : TR w (.slice ao n c) n ts) (hs : TR w (.slice bo n' c') n' us) :
    Calls Try.prog 16 #[.slice ao n c, .slice bo n' c'] w fun e w' => e = .returned (.bool (decide (plain ts = plain us))) ∧ Below w.heap.size w w' := by
  have hl := hr.len
  have hl' := hs.len
  obtain ⟨_, _, es, hca, hcm⟩ := hr.shape
  simp only [Value.slice.injEq] at es
  obtain ⟨rfl, z1, rfl⟩ := es
  clear z1
  unfold maxLen at hcm
  by_cases hnn : n = n'
  · subst hnn
    have HR := Lib.hid hr
    have HS := Lib.hid hs
    clear hr hs
    go_enter Try.func16, Try.ntmps16
    go_wp2
    go_loopw [5] (fun iv wr => ∃ k : Nat, k ≤ n ∧ iv = .int .i64 k ∧ Alike ts us k ∧ Below w.heap.size w wr) (fun iv _ => n - (intOf iv).toNat)
    case atStart => exact ⟨0, Nat.zero_le _, rfl, Alike.zero _ _, Below.refl _ _⟩
    case round =>
      obtain ⟨k, hk, rfl, hal, hb⟩ := hrel
      have HA := Lib.hid hal
      have HB := Lib.hid hb
      clear hal hb
      by_cases hlt : k < n
      · obtain ⟨b, o, rfl, hbl, hc⟩ := (HR.out.below HB.out).cells (by omega)
        obtain ⟨b2, o2, rfl, hbl2, hd⟩ := (HS.out.below HB.out).cells (by omega)
        obtain ⟨hc0, hc1⟩ := hc k (by omega)
        obtain ⟨hd0, hd1⟩ := hd k (by omega)
        have hv := HR.out.val k (by omega)
        have hw := HS.out.val k (by omega)
        obtain ⟨A, L, C, ev, hL, hLC, hCm⟩ := hv.sl
        obtain ⟨A2, L2, C2, ew, hL2, hLC2, hCm2⟩ := hw.sl
        rw [ev] at hc1 hv
        rw [ew] at hd1 hw
        have HK : Hid (decide ((ts[k].typ, ts[k].l) = (us[k].typ, us[k].l)) = true → Alike ts us (k + 1)) := fun e => HA.out.next (by omega) (by omega) (of_decide_eq_true e)
        have HNK : Hid (decide ((ts[k].typ, ts[k].l) = (us[k].typ, us[k].l)) = false → decide (plain ts = plain us) = false) := fun e => decide_eq_false fun h => of_decide_eq_false e (plain_at h k (by omega) (by omega))
        generalize ts[k].typ = T at hc0 HK HNK
        generalize ts[k].l = x at hv HK HNK
        generalize us[k].typ = U at hd0 HK HNK
        generalize us[k].l = y at hw HK HNK
        have HRA : Hid (wr.rangeAt b (o + k * 2) [.int .i64 T, .slice A L C]) := by
          intro j u hj
          match j, hj with
          | 0, hj => obtain rfl := Option.some.inj hj; exact hc0
          | 1, hj => obtain rfl := Option.some.inj hj; exact hc1
        have HRB : Hid (wr.rangeAt b2 (o2 + k * 2) [.int .i64 U, .slice A2 L2 C2]) := by
          intro j u hj
          match j, hj with
          | 0, hj => obtain rfl := Option.some.inj hj; exact hd0
          | 1, hj => obtain rfl := Option.some.inj hj; exact hd1
        have OA : Hid (∀ w', Gr wr w' → Calls Try.prog 22 #[.agg #[.int .i64 T, .slice A L C], .agg #[.int .i64 U, .slice A2 L2 C2]] w' fun e w2 => e = .returned (.bool (decide ((T, x) = (U, y)))) ∧ Below w'.heap.size w' w2) := fun w' hw' =>
          one_any T U A A2 L L2 C C2 x y w' (hv.below (HB.out.trans (Below.mono hw' HB.out.size))) (hw.below (HB.out.trans (Below.mono hw' HB.out.size)))
        have hbn := HB.out.size
        generalize decide ((T, x) = (U, y)) = q at OA HK HNK
        clear hv hw hc hd ev ew hc0 hc1 hd0 hd1 hL hL2
        go_wp2_with fail
        refine wp_region_G 10 Gr (by kernel_rfl) ?_
        -- 0: slot 17
        refine wpG_take preGr (i := 0) (v := ?_) (by kernel_rfl) (some 17) (by kernel_rfl) rfl (by kernel_rfl) (by kernel_rfl) (by kernel_rfl) (fun _ _ _ h => h) (by rfl) (fun w' hw' => ?_) rfl ?_
        rotate_left
        · go_simp
          with_reducible rfl
        simp only [Act.put, List.setIfInBounds_toArray, List.set_cons_zero, List.set_cons_succ]
        -- 1: slot 18
        refine wpG_take preGr (i := 1) (v := ?_) (by kernel_rfl) (some 18) (by kernel_rfl) rfl (by kernel_rfl) (by kernel_rfl) (by kernel_rfl) (fun _ _ _ h => h) (by rfl) (fun w' hw' => ?_) rfl ?_
        rotate_left
        · go_simp
          with_reducible rfl
        simp only [Act.put, List.setIfInBounds_toArray, List.set_cons_zero, List.set_cons_succ]
        -- 2: slot 19
        refine wpG_take preGr (i := 2) (v := ?_) (by kernel_rfl) (some 19) (by kernel_rfl) rfl (by kernel_rfl) (by kernel_rfl) (by kernel_rfl) (fun _ _ _ h => h) (by rfl) (fun w' hw' => ?_) rfl ?_
        rotate_left
        · go_simp
          with_reducible rfl
        simp only [Act.put, List.setIfInBounds_toArray, List.set_cons_zero, List.set_cons_succ]
        -- 3: slot 20
        refine wpG_take preGr (i := 3) (v := ?_) (by kernel_rfl) (some 20) (by kernel_rfl) rfl (by kernel_rfl) (by kernel_rfl) (by kernel_rfl) (fun _ _ _ h => h) (by rfl) (fun w' hw' => ?_) rfl ?_
        rotate_left
        · refine Eq.trans (load_mid_run (P := Try.prog) 36 (.tmp 19) ?_ b (o + k * 2) ?_ [.int .i64 T, .slice A L C] _ (range_gr ((Gr.drew wr).trans hw') HRA.out) Try.underlying36 rfl sizeT) ?_
          · rfl
          · rfl
          · with_reducible rfl
        simp only [Act.put, List.setIfInBounds_toArray, List.set_cons_zero, List.set_cons_succ]
        -- 4: slot 21
        refine wpG_take preGr (i := 4) (v := ?_) (by kernel_rfl) (some 21) (by kernel_rfl) rfl (by kernel_rfl) (by kernel_rfl) (by kernel_rfl) (fun _ _ _ h => h) (by rfl) (fun w' hw' => ?_) rfl ?_
        rotate_left
        · go_simp
          with_reducible rfl
        simp only [Act.put, List.setIfInBounds_toArray, List.set_cons_zero, List.set_cons_succ]
        -- 5: slot 22
        refine wpG_take preGr (i := 5) (v := ?_) (by kernel_rfl) (some 22) (by kernel_rfl) rfl (by kernel_rfl) (by kernel_rfl) (by kernel_rfl) (fun _ _ _ h => h) (by rfl) (fun w' hw' => ?_) rfl ?_
        rotate_left
        · go_simp
          with_reducible rfl
        simp only [Act.put, List.setIfInBounds_toArray, List.set_cons_zero, List.set_cons_succ]
        -- 6: slot 23
        refine wpG_take preGr (i := 6) (v := ?_) (by kernel_rfl) (some 23) (by kernel_rfl) rfl (by kernel_rfl) (by kernel_rfl) (by kernel_rfl) (fun _ _ _ h => h) (by rfl) (fun w' hw' => ?_) rfl ?_
        rotate_left
        · go_simp
          with_reducible rfl
        simp only [Act.put, List.setIfInBounds_toArray, List.set_cons_zero, List.set_cons_succ]
        -- 7: slot 24
        refine wpG_take preGr (i := 7) (v := ?_) (by kernel_rfl) (some 24) (by kernel_rfl) rfl (by kernel_rfl) (by kernel_rfl) (by kernel_rfl) (fun _ _ _ h => h) (by rfl) (fun w' hw' => ?_) rfl ?_
        rotate_left
        · refine Eq.trans (load_mid_run (P := Try.prog) 36 (.tmp 23) ?_ b2 (o2 + k * 2) ?_ [.int .i64 U, .slice A2 L2 C2] _ (range_gr ((Gr.drew wr).trans hw') HRB.out) Try.underlying36 rfl sizeT) ?_
          · rfl
          · rfl
          · with_reducible rfl
        simp only [Act.put, List.setIfInBounds_toArray, List.set_cons_zero, List.set_cons_succ]
        refine wpG_one (i := 8) rfl (by kernel_rfl) (by rfl) ?_
        go_simp
        refine (OA.out _ (Gr.drew _)).mono ?_
        rintro e w2 ⟨rfl, hb2⟩
        refine ⟨hb2, ?_⟩
        have HB2 := Lib.hid (HB.out.drew.trans (hb2.mono hbn))
        clear hb2
        try simp only [Act.put, List.setIfInBounds_toArray, List.set_cons_zero, List.set_cons_succ]
        -- 9: slot 26
        refine wpG_take preGr (i := 9) (v := ?_) (by kernel_rfl) (some 26) (by kernel_rfl) rfl (by kernel_rfl) (by kernel_rfl) (by kernel_rfl) (fun _ _ _ h => h) (by rfl) (fun w' hw' => ?_) rfl ?_
        rotate_left
        · go_simp
          with_reducible rfl
        simp only [Act.put, List.setIfInBounds_toArray, List.set_cons_zero, List.set_cons_succ]
        refine wpG_done (by kernel_rfl) ?_ _
        cases q with
        | true =>
          have HA1 := Lib.hid (HK.out rfl)
          clear HNK HK
          go_wp2
          go_roundw
          case rel =>
            have HA2 := HA1.out
            first | exact ⟨k + 1, by omega, by go_num, HA2, HB2.out⟩ | ((repeat apply Exists.intro); exact ⟨⟨k + 1, by omega, by go_num, HA2, HB2.out⟩, rfl⟩)
          case measure => simp [intOf]; omega
        | false =>
          have HN := Lib.hid (HNK.out rfl)
          clear HNK HK
          go_wp2
          go_ret
          exact ⟨by rw [HN.out]; rfl, HB2.out⟩
      · obtain rfl : k = n := by omega
        have HE := Lib.hid (decide_eq_true (HA.out.all (by omega) (by omega)))
        go_wp2
        go_ret
        exact ⟨by rw [HE.out]; rfl, HB.out⟩
  · have e : decide (plain ts = plain us) = false := decide_eq_false fun h => hnn (by have := plain_len h; omega)
    rw [e]
    have hne : ((n : Int) != (n' : Int)) = true := by rw [bne_iff_ne]; omega
    clear hr hs e hnn
    go_enter Try.func16, Try.ntmps16
    go_wp2
    go_ret
    exact ⟨rfl, Below.refl _ _⟩

set_option maxHeartbeats 1000000 in
theorem equalFunc_any (ao bo : Option Addr) (n n' c c' : Nat) (ts us : List Tg) (w : World) (hr : TR w (.slice ao n c) n ts) (hs : TR w (.slice bo n' c') n' us) :
    Calls Try.prog 35 #[.slice ao n c, .slice bo n' c', .func (.func 36) #[] #[]] w fun e w' => e = .returned (.bool (decide (plain ts = plain us))) ∧ Below w.heap.size w w' := by
  have hl := hr.len
  have hl' := hs.len
  obtain ⟨_, _, es, hca, hcm⟩ := hr.shape
  simp only [Value.slice.injEq] at es
  obtain ⟨rfl, z1, rfl⟩ := es
  clear z1
  unfold maxLen at hcm
  by_cases hnn : n = n'
  · subst hnn
    have HR := Lib.hid hr
    have HS := Lib.hid hs
    clear hr hs
    go_enter Try.func35, Try.ntmps35
    go_wp2
    go_loopw [17] (fun iv wr => ∃ k : Nat, k ≤ n ∧ iv = .int .i64 k ∧ Alike ts us k ∧ Below w.heap.size w wr) (fun iv _ => n - (intOf iv).toNat)
    case atStart => exact ⟨0, Nat.zero_le _, rfl, Alike.zero _ _, Below.refl _ _⟩
    case round =>
      obtain ⟨k, hk, rfl, hal, hb⟩ := hrel
      have HA := Lib.hid hal
      have HB := Lib.hid hb
      clear hal hb
      by_cases hlt : k < n
      · obtain ⟨b, o, rfl, hbl, hc⟩ := (HR.out.below HB.out).cells (by omega)
        obtain ⟨b2, o2, rfl, hbl2, hd⟩ := (HS.out.below HB.out).cells (by omega)
        obtain ⟨hc0, hc1⟩ := hc k (by omega)
        obtain ⟨hd0, hd1⟩ := hd k (by omega)
        have hv := HR.out.val k (by omega)
        have hw := HS.out.val k (by omega)
        obtain ⟨A, L, C, ev, hL, hLC, hCm⟩ := hv.sl
        obtain ⟨A2, L2, C2, ew, hL2, hLC2, hCm2⟩ := hw.sl
        rw [ev] at hc1 hv
        rw [ew] at hd1 hw
        have HK : Hid (decide ((ts[k].typ, ts[k].l) = (us[k].typ, us[k].l)) = true → Alike ts us (k + 1)) := fun e => HA.out.next (by omega) (by omega) (of_decide_eq_true e)
        have HNK : Hid (decide ((ts[k].typ, ts[k].l) = (us[k].typ, us[k].l)) = false → decide (plain ts = plain us) = false) := fun e => decide_eq_false fun h => of_decide_eq_false e (plain_at h k (by omega) (by omega))
        generalize ts[k].typ = T at hc0 HK HNK
        generalize ts[k].l = x at hv HK HNK
        generalize us[k].typ = U at hd0 HK HNK
        generalize us[k].l = y at hw HK HNK
        have hbn := HB.out.size
        have hq : Below wr.heap.size wr ((wr.alloc (.cells #[.int .i64 T, .slice A L C] 36)).alloc (.cells #[.int .i64 U, .slice A2 L2 C2] 36)) := ((Below.refl _ _).alloc (Nat.le_refl _) _).alloc (by simp) _
        have HB1 := Lib.hid (HB.out.trans (hq.mono hbn))
        have EQ := Lib.hid (equal_any T U A A2 L L2 C C2 x y _ (hv.below HB1.out) (hw.below HB1.out))
        have hd0' := (cell_gr ((Below.refl _ wr).alloc (Nat.le_refl _) (.cells #[.int .i64 T, .slice A L C] 36)) hd0)
        have hd1' := (cell_gr ((Below.refl _ wr).alloc (Nat.le_refl _) (.cells #[.int .i64 T, .slice A L C] 36)) hd1)
        have hsz : w.heap.size ≤ ((wr.alloc (.cells #[.int .i64 T, .slice A L C] 36)).alloc (.cells #[.int .i64 U, .slice A2 L2 C2] 36)).heap.size := HB1.out.size
        have HSZ := Lib.hid hsz
        generalize decide ((T, x) = (U, y)) = q at EQ HK HNK
        clear hv hw hc hd ev ew hL hL2 hq hsz
        go_wp2_with fail
        refine EQ.out.mono ?_
        rintro e w2 ⟨rfl, hb2⟩
        have HB2 := Lib.hid (HB1.out.trans (hb2.mono HSZ.out))
        clear hb2
        cases q with
        | true =>
          have HA1 := Lib.hid (HK.out rfl)
          clear HNK HK
          go_wp2
          go_roundw
          case rel =>
            have HA2 := HA1.out
            first | exact ⟨k + 1, by omega, by go_num, HA2, HB2.out⟩ | ((repeat apply Exists.intro); exact ⟨⟨k + 1, by omega, by go_num, HA2, HB2.out⟩, rfl⟩)
          case measure => simp [intOf]; omega
        | false =>
          have HN := Lib.hid (HNK.out rfl)
          clear HNK HK
          go_wp2
          go_ret
          exact ⟨by rw [HN.out]; rfl, HB2.out⟩
      · obtain rfl : k = n := by omega
        have HE := Lib.hid (decide_eq_true (HA.out.all (by omega) (by omega)))
        go_wp2
        go_ret
        exact ⟨by rw [HE.out]; rfl, HB.out⟩
  · have e : decide (plain ts = plain us) = false := decide_eq_false fun h => hnn (by have := plain_len h; omega)
    rw [e]
    have hne : ((n : Int) != (n' : Int)) = true := by rw [bne_iff_ne]; omega
    clear hr hs e hnn
    go_enter Try.func35, Try.ntmps35
    go_wp2
    go_ret
    exact ⟨rfl, Below.refl _ _⟩
theorem same_any (ao bo : Option Addr) (n n' c c' : Nat) (ts us : List Tg) (w : World) (hr : TR w (.slice ao n c) n ts) (hs : TR w (.slice bo n' c') n' us) :
    Calls Try.prog 25 #[.slice ao n c, .slice bo n' c'] w fun e w' => e = .returned (.bool (decide (plain ts = plain us))) ∧ Below w.heap.size w w' := by
  have EF := Lib.hid (equalFunc_any ao bo n n' c c' ts us w hr hs)
  clear hr hs
  go_enter Try.func25, Try.ntmps25
  go_wp2_with fail
  refine EF.out.mono ?_
  rintro e w1 ⟨rfl, hb1⟩
  have HB1 := Lib.hid hb1
  clear hb1
  go_wp2
  go_ret
  exact ⟨rfl, HB1.out⟩
end Go.Proofs.Yteemcckfhadkhaa.O
