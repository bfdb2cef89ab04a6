/-
  The document's Join, Encode, whatever comes.
-/
import Derived.Test.YthllhdcdiidfpaaCpE
import Derived.Test.YthllhdcdiidfpaaRPut
namespace Go.Proofs.Ythllhdcdiidfpaa
open Go.RowKit
set_option linter.unusedVariables false
set_option linter.unusedSimpArgs false

set_option maxHeartbeats 4000000 in
theorem rjoin_any (C : Int) (A : Option Addr) (L K : Nat) (l : List UInt8) (hl : l.length = L) (w : World) (hb : Bs w (.slice A L K) l) (hL : L ≤ 1000000) :
    Calls Try.prog 12 #[.agg #[.int .i64 C, .slice A L K]] w (BRes (joinE ⟨C, l⟩) (joinB ⟨C, l⟩) w) := by
  obtain ⟨i0, hi, hz0, hz1, hz2⟩ := info_parts info5
  have BA : Below w.heap.size w (w.alloc (.cells #[.int .i64 C, .slice A L K] 24)) := (Below.refl _ _).alloc (Nat.le_refl _) _
  have HB := Lib.hid BA
  have PM := Lib.hid (isProto_any C (w.alloc (.cells #[.int .i64 C, .slice A L K] 24)))
  have HG0 : Hid ((w.alloc (.cells #[.int .i64 C, .slice A L K] 24)).heap[w.heap.size]? = some (.cells #[.int .i64 C, .slice A L K] 24)) := heap_alloc_last _ _
  have HV := Lib.hid hb
  have HL := Lib.hid hl
  clear BA hb hl
  go_enter Try.func12, Try.ntmps12
  go_wp2_with fail
  refine PM.out.mono ?_
  rintro e w' ⟨rfl, rfl⟩
  cases hp : protoB C with
  | false =>
    have HE := Lib.hid (joinE_no (q := ⟨C, l⟩) hp)
    clear hp PM
    go_wp2
    go_ret2
    exact BRes.none HE.out (joinB_no (by rw [HE.out]; decide)) HB.out
  | true =>
    obtain ⟨p1, p2, p3, p4⟩ := protoB_true hp
    by_cases h5 : 1492 < L
    · have HE := Lib.hid (joinE_long (q := ⟨C, l⟩) hp (by show 1492 < l.length; rw [HL.out]; exact h5))
      clear hp p3 p4 PM
      obtain ⟨k0, k1⟩ := cells2 HG0.out
      go_wp2
      go_ret2
      exact BRes.none HE.out (joinB_no (by rw [HE.out]; decide)) HB.out
    have HE := Lib.hid (joinE_ok (q := ⟨C, l⟩) hp (by show ¬ 1492 < l.length; rw [HL.out]; exact h5))
    clear hp p3 p4 PM
    obtain ⟨X, rfl⟩ : ∃ X : Nat, C = (X : Int) := ⟨C.toNat, by omega⟩
    obtain ⟨wq, hwq⟩ : ∃ x, x = w.alloc (.cells #[.int .i64 (X : Int), .slice A L K] 24) := ⟨_, rfl⟩
    have PT : Hid (∀ w', Calls Try.prog 29 #[.int .u64 X, .int .i64 2] w' fun e w'' => ∃ v, e = .returned v ∧ OwnB w'' w'.heap.size 5 v (putL X 2) ∧ Below w'.heap.size w' w'') := fun w' => rput_yes X 2 w' (by decide) (by decide) (by omega)
    have W1 : IntKind.u64.wrap (X : Int) = (X : Int) := IntWalk.u64_in _ (by omega)
    rw [← hwq] at HB HG0 ⊢
    clear hwq
    obtain ⟨k0, k1⟩ := cells2 HG0.out
    go_wp2_with fail
    refine wp_region_G 9 (Below (wq.heap.size)) (by kernel_rfl) ?_
    -- 0: slot 12
    refine wpG_take (preBelow (wq.heap.size)) (i := 0) (v := ?_) (by kernel_rfl) (some 12) (by kernel_rfl) rfl (by kernel_rfl) (by kernel_rfl) (by kernel_rfl) (fun _ _ _ h => h) (by rfl) (fun w' hw' => ?_) rfl ?_
    rotate_left
    · try have g0 := cell_gr ((Gr.drew wq).trans hw') k0
      try have g1 := cell_gr ((Gr.drew wq).trans hw') k1
      go_simp
      with_reducible rfl
    simp only [Act.put, List.setIfInBounds_toArray, List.set_cons_zero, List.set_cons_succ]
    -- 1: slot 13
    refine wpG_take (preBelow (wq.heap.size)) (i := 1) (v := ?_) (by kernel_rfl) (some 13) (by kernel_rfl) rfl (by kernel_rfl) (by kernel_rfl) (by kernel_rfl) (fun _ _ _ h => h) (by rfl) (fun w' hw' => ?_) rfl ?_
    rotate_left
    · try have g0 := cell_gr ((Gr.drew wq).trans hw') k0
      try have g1 := cell_gr ((Gr.drew wq).trans hw') k1
      go_simp
      with_reducible rfl
    simp only [Act.put, List.setIfInBounds_toArray, List.set_cons_zero, List.set_cons_succ]
    -- 2: slot 14
    refine wpG_take (preBelow (wq.heap.size)) (i := 2) (v := ?_) (by kernel_rfl) (some 14) (by kernel_rfl) rfl (by kernel_rfl) (by kernel_rfl) (by kernel_rfl) (fun _ _ _ h => h) (by rfl) (fun w' hw' => ?_) rfl ?_
    rotate_left
    · try have g0 := cell_gr ((Gr.drew wq).trans hw') k0
      try have g1 := cell_gr ((Gr.drew wq).trans hw') k1
      go_simp
      with_reducible rfl
    simp only [Act.put, List.setIfInBounds_toArray, List.set_cons_zero, List.set_cons_succ]
    -- 4: slot 16
    refine wpG_take (preBelow (wq.heap.size)) (i := 4) (v := ?_) (by kernel_rfl) (some 16) (by kernel_rfl) rfl (by kernel_rfl) (by kernel_rfl) (by kernel_rfl) (fun _ _ _ h => h) (by rfl) (fun w' hw' => ?_) rfl ?_
    rotate_left
    · try have g0 := cell_gr ((Gr.drew wq).trans hw') k0
      try have g1 := cell_gr ((Gr.drew wq).trans hw') k1
      go_simp
      with_reducible rfl
    simp only [Act.put, List.setIfInBounds_toArray, List.set_cons_zero, List.set_cons_succ]
    -- 5: slot 17
    refine wpG_take (preBelow (wq.heap.size)) (i := 5) (v := ?_) (by kernel_rfl) (some 17) (by kernel_rfl) rfl (by kernel_rfl) (by kernel_rfl) (by kernel_rfl) (fun _ _ _ h => h) (by rfl) (fun w' hw' => ?_) rfl ?_
    rotate_left
    · try have g0 := cell_gr ((Gr.drew wq).trans hw') k0
      try have g1 := cell_gr ((Gr.drew wq).trans hw') k1
      go_simp
      with_reducible rfl
    simp only [Act.put, List.setIfInBounds_toArray, List.set_cons_zero, List.set_cons_succ]
    refine wpG_one (i := 3) rfl (by kernel_rfl) (by rfl) ?_
    go_simp
    refine (PT.out _).mono ?_
    rintro e w2 ⟨v2, rfl, hown2, hb2⟩
    have hz : wq.heap.size ≤ wq.drew.heap.size := Nat.le_refl _
    refine ⟨hb2.mono hz, ?_⟩
    have HO2 := Lib.hid (hown2.mono hz)
    have HB2 := Lib.hid ((Gr.drew wq).trans hb2)
    have HZ2 : Hid (wq.heap.size ≤ w2.heap.size) := hb2.size
    have HV2 : Hid (Rd w2 1 (.slice A L K) L (l.map u8v)) := by
      have := HV.out.below (HB.out.trans (HB2.out.mono HB.out.size))
      unfold Bs at this
      rw [HL.out] at this
      exact this
    clear hown2 hb2 hz
    try simp only [Act.put, List.setIfInBounds_toArray, List.set_cons_zero, List.set_cons_succ]
    refine wpG_one (i := 6) rfl (by kernel_rfl) (by rfl) ?_
    refine wp_append_gr _ (some 18) (.tmp 15) (.tmp 17) 22 rfl wq.heap.size 5 i0 (.int .u8 0) 1 1 Try.underlying22 hi hz0 hz1 hz2 rfl (by decide) _ _ _ rfl HO2.out _ _ _ rfl HV2.out (oneCell_u8 _) ?q1 (by decide) HZ2.out rfl ?_
    case q1 => simp [putL_length]; omega
    intro v6 w6 hown6 hg6
    have hb6 : Below wq.heap.size w2 w6 := grown_below HO2.out HZ2.out hg6
    refine ⟨hb6, ?_⟩
    have HB6 := Lib.hid (HB.out.trans ((Below.trans HB2.out hb6).mono HB.out.size))
    have HO6 : Hid (OwnB w6 w.heap.size 5 v6 (wireJ ⟨X, l⟩)) := by
      show OwnB _ _ _ _ _
      rw [wireJ_eq]
      exact (OwnB.of_app hown6 (by simp [putL_length]) HL.out).mono HB.out.size
    clear hown6 hg6 hb6
    try simp only [Act.put, List.setIfInBounds_toArray, List.set_cons_zero, List.set_cons_succ]
    -- 7: slot 2
    refine wpG_take (preBelow (wq.heap.size)) (i := 7) (v := ?_) (by kernel_rfl) (some 2) (by kernel_rfl) rfl (by kernel_rfl) (by kernel_rfl) (by kernel_rfl) (fun _ _ _ h => h) (by rfl) (fun w' hw' => ?_) rfl ?_
    rotate_left
    · try have g0 := cell_gr ((Gr.drew wq).trans hw') k0
      try have g1 := cell_gr ((Gr.drew wq).trans hw') k1
      go_simp
      with_reducible rfl
    simp only [Act.put, List.setIfInBounds_toArray, List.set_cons_zero, List.set_cons_succ]
    -- 8: slot 3
    refine wpG_take (preBelow (wq.heap.size)) (i := 8) (v := ?_) (by kernel_rfl) (some 3) (by kernel_rfl) rfl (by kernel_rfl) (by kernel_rfl) (by kernel_rfl) (fun _ _ _ h => h) (by rfl) (fun w' hw' => ?_) rfl ?_
    rotate_left
    · try have g0 := cell_gr ((Gr.drew wq).trans hw') k0
      try have g1 := cell_gr ((Gr.drew wq).trans hw') k1
      go_simp
      with_reducible rfl
    simp only [Act.put, List.setIfInBounds_toArray, List.set_cons_zero, List.set_cons_succ]
    refine wpG_done (by kernel_rfl) ?_ _
    go_wp2
    go_ret2
    exact BRes.some HE.out (joinB_yes HE.out) HO6.out HB6.out

set_option maxHeartbeats 4000000 in
theorem rcencode_any (C S : Int) (A : Option Addr) (L K : Nat) (l : List UInt8) (hl : l.length = L) (w : World) (hb : Bs w (.slice A L K) l) (hL : L ≤ 1000000) :
    Calls Try.prog 18 #[.agg #[.int .i64 C, .int .i64 S, .slice A L K]] w (BRes (cencE ⟨C, S, l⟩) (cencB ⟨C, S, l⟩) w) := by
  obtain ⟨i0, hi, hz0, hz1, hz2⟩ := info_parts info5
  have BA : Below w.heap.size w (w.alloc (.cells #[.int .i64 C, .int .i64 S, .slice A L K] 39)) := (Below.refl _ _).alloc (Nat.le_refl _) _
  have HB := Lib.hid BA
  have IB1 := Lib.hid (byteOK_any C (w.alloc (.cells #[.int .i64 C, .int .i64 S, .slice A L K] 39)))
  have IB2 := Lib.hid (byteOK_any S (w.alloc (.cells #[.int .i64 C, .int .i64 S, .slice A L K] 39)))
  have HG0 : Hid ((w.alloc (.cells #[.int .i64 C, .int .i64 S, .slice A L K] 39)).heap[w.heap.size]? = some (.cells #[.int .i64 C, .int .i64 S, .slice A L K] 39)) := heap_alloc_last _ _
  have HV := Lib.hid hb
  have HL := Lib.hid hl
  clear BA hb hl
  go_enter Try.func18, Try.ntmps18
  go_wp2_with fail
  refine IB1.out.mono ?_
  rintro e w' ⟨rfl, rfl⟩
  cases hp : byteB C with
  | false =>
    have HE := Lib.hid (cencE_code (q := ⟨C, S, l⟩) hp)
    clear hp IB1 IB2
    go_wp2
    go_ret2
    exact BRes.none HE.out (cencB_no (by rw [HE.out]; decide)) HB.out
  | true =>
    go_wp2_with fail
    refine IB2.out.mono ?_
    rintro e w' ⟨rfl, rfl⟩
    cases hq : byteB S with
    | false =>
      have HE := Lib.hid (cencE_num (q := ⟨C, S, l⟩) hq)
      clear hp hq IB1 IB2
      go_wp2
      go_ret2
      exact BRes.none HE.out (cencB_no (by rw [HE.out]; decide)) HB.out
    | true =>
      obtain ⟨p1, p2⟩ := byteB_true hp
      obtain ⟨p3, p4⟩ := byteB_true hq
      by_cases h5 : 1488 < L
      · have HE := Lib.hid (cencE_long (q := ⟨C, S, l⟩) hp hq (by show 1488 < l.length; rw [HL.out]; exact h5))
        obtain ⟨k0, k1, k2⟩ := cells3 HG0.out
        clear hp hq IB1 IB2
        go_wp2
        go_ret2
        exact BRes.none HE.out (cencB_no (by rw [HE.out]; decide)) HB.out
      have HE := Lib.hid (cencE_ok (q := ⟨C, S, l⟩) hp hq (by show ¬ 1488 < l.length; rw [HL.out]; exact h5))
      clear hp hq IB1 IB2
      obtain ⟨X, rfl⟩ : ∃ X : Nat, C = (X : Int) := ⟨C.toNat, by omega⟩
      obtain ⟨Y, rfl⟩ : ∃ Y : Nat, S = (Y : Int) := ⟨S.toNat, by omega⟩
      obtain ⟨M, hM⟩ : ∃ M : Nat, (L : Int) + 4 = (M : Int) := ⟨4 + L, by omega⟩
      obtain ⟨wq, hwq⟩ : ∃ x, x = w.alloc (.cells #[.int .i64 (X : Int), .int .i64 (Y : Int), .slice A L K] 39) := ⟨_, rfl⟩
      have PT : Hid (∀ w', Calls Try.prog 29 #[.int .u64 M, .int .i64 2] w' fun e w'' => ∃ v, e = .returned v ∧ OwnB w'' w'.heap.size 5 v (putL M 2) ∧ Below w'.heap.size w' w'') := fun w' => rput_yes M 2 w' (by decide) (by decide) (by omega)
      have W1 : IntKind.u64.wrap (M : Int) = (M : Int) := IntWalk.u64_in _ (by omega)
      have W2 : IntKind.i64.wrap ((L : Int) + 4) = (M : Int) := by rw [hM]; exact IntWalk.i64_in _ (by omega)
      have W5 : IntKind.i64.wrap (M : Int) = (M : Int) := IntWalk.i64_in _ (by omega)
      have W3 : IntKind.u8.wrap (X : Int) = (X : Int) := IntWalk.u8_in _ (by omega)
      have W4 : IntKind.u8.wrap (Y : Int) = (Y : Int) := IntWalk.u8_in _ (by omega)
      rw [← hwq] at HB HG0 ⊢
      clear hwq
      obtain ⟨k0, k1, k2⟩ := cells3 HG0.out
      have e2 : [Value.int .u8 (X : Int), .int .u8 (Y : Int)] = ([UInt8.ofNat X, UInt8.ofNat Y] : List UInt8).map u8v := by
        have g : ∀ n : Nat, n < 256 → Value.int .u8 (n : Int) = u8v (UInt8.ofNat n) := fun n hn => by
          unfold u8v
          rw [UInt8.toNat_ofNat', Nat.mod_eq_of_lt hn]
        rw [g X (by omega), g Y (by omega)]
        rfl
      have HE2 := Lib.hid e2
      clear e2
      have HC : Hid (Gr wq wq.drew) := Gr.drew wq
      go_wp2_with fail
      refine wp_region_G 15 (Below (wq.heap.size)) (by kernel_rfl) ?_
      generalize wq.drew = wc at HC ⊢
      -- 0: slot 19
      refine wpG_take (preBelow (wq.heap.size)) (i := 0) (v := ?_) (by kernel_rfl) (some 19) (by kernel_rfl) rfl (by kernel_rfl) (by kernel_rfl) (by kernel_rfl) (fun _ _ _ h => h) (by rfl) (fun w' hw' => ?_) rfl ?_
      rotate_left
      · try have g0 := cell_gr (Below.trans HC.out hw') k0
        try have g1 := cell_gr (Below.trans HC.out hw') k1
        try have g2 := cell_gr (Below.trans HC.out hw') k2
        go_simp
        with_reducible rfl
      simp only [Act.put, List.setIfInBounds_toArray, List.set_cons_zero, List.set_cons_succ]
      -- 1: slot 20
      refine wpG_take (preBelow (wq.heap.size)) (i := 1) (v := ?_) (by kernel_rfl) (some 20) (by kernel_rfl) rfl (by kernel_rfl) (by kernel_rfl) (by kernel_rfl) (fun _ _ _ h => h) (by rfl) (fun w' hw' => ?_) rfl ?_
      rotate_left
      · try have g0 := cell_gr (Below.trans HC.out hw') k0
        try have g1 := cell_gr (Below.trans HC.out hw') k1
        try have g2 := cell_gr (Below.trans HC.out hw') k2
        go_simp
        with_reducible rfl
      simp only [Act.put, List.setIfInBounds_toArray, List.set_cons_zero, List.set_cons_succ]
      -- 2: slot 21
      refine wpG_take (preBelow (wq.heap.size)) (i := 2) (v := ?_) (by kernel_rfl) (some 21) (by kernel_rfl) rfl (by kernel_rfl) (by kernel_rfl) (by kernel_rfl) (fun _ _ _ h => h) (by rfl) (fun w' hw' => ?_) rfl ?_
      rotate_left
      · try have g0 := cell_gr (Below.trans HC.out hw') k0
        try have g1 := cell_gr (Below.trans HC.out hw') k1
        try have g2 := cell_gr (Below.trans HC.out hw') k2
        go_simp
        with_reducible rfl
      simp only [Act.put, List.setIfInBounds_toArray, List.set_cons_zero, List.set_cons_succ]
      -- 3: slot 22
      refine wpG_take (preBelow (wq.heap.size)) (i := 3) (v := ?_) (by kernel_rfl) (some 22) (by kernel_rfl) rfl (by kernel_rfl) (by kernel_rfl) (by kernel_rfl) (fun _ _ _ h => h) (by rfl) (fun w' hw' => ?_) rfl ?_
      rotate_left
      · try have g0 := cell_gr (Below.trans HC.out hw') k0
        try have g1 := cell_gr (Below.trans HC.out hw') k1
        try have g2 := cell_gr (Below.trans HC.out hw') k2
        go_simp
        with_reducible rfl
      simp only [Act.put, List.setIfInBounds_toArray, List.set_cons_zero, List.set_cons_succ]
      -- 4: slot 23
      refine wpG_take (preBelow (wq.heap.size)) (i := 4) (v := ?_) (by kernel_rfl) (some 23) (by kernel_rfl) rfl (by kernel_rfl) (by kernel_rfl) (by kernel_rfl) (fun _ _ _ h => h) (by rfl) (fun w' hw' => ?_) rfl ?_
      rotate_left
      · try have g0 := cell_gr (Below.trans HC.out hw') k0
        try have g1 := cell_gr (Below.trans HC.out hw') k1
        try have g2 := cell_gr (Below.trans HC.out hw') k2
        go_simp
        with_reducible rfl
      simp only [Act.put, List.setIfInBounds_toArray, List.set_cons_zero, List.set_cons_succ]
      -- 5: slot 24
      refine wpG_take (preBelow (wq.heap.size)) (i := 5) (v := ?_) (by kernel_rfl) (some 24) (by kernel_rfl) rfl (by kernel_rfl) (by kernel_rfl) (by kernel_rfl) (fun _ _ _ h => h) (by rfl) (fun w' hw' => ?_) rfl ?_
      rotate_left
      · try have g0 := cell_gr (Below.trans HC.out hw') k0
        try have g1 := cell_gr (Below.trans HC.out hw') k1
        try have g2 := cell_gr (Below.trans HC.out hw') k2
        go_simp
        with_reducible rfl
      simp only [Act.put, List.setIfInBounds_toArray, List.set_cons_zero, List.set_cons_succ]
      -- 7: slot 26
      refine wpG_take (preBelow (wq.heap.size)) (i := 7) (v := ?_) (by kernel_rfl) (some 26) (by kernel_rfl) rfl (by kernel_rfl) (by kernel_rfl) (by kernel_rfl) (fun _ _ _ h => h) (by rfl) (fun w' hw' => ?_) rfl ?_
      rotate_left
      · try have g0 := cell_gr (Below.trans HC.out hw') k0
        try have g1 := cell_gr (Below.trans HC.out hw') k1
        try have g2 := cell_gr (Below.trans HC.out hw') k2
        go_simp
        with_reducible rfl
      simp only [Act.put, List.setIfInBounds_toArray, List.set_cons_zero, List.set_cons_succ]
      -- 8: slot 27
      refine wpG_take (preBelow (wq.heap.size)) (i := 8) (v := ?_) (by kernel_rfl) (some 27) (by kernel_rfl) rfl (by kernel_rfl) (by kernel_rfl) (by kernel_rfl) (fun _ _ _ h => h) (by rfl) (fun w' hw' => ?_) rfl ?_
      rotate_left
      · try have g0 := cell_gr (Below.trans HC.out hw') k0
        try have g1 := cell_gr (Below.trans HC.out hw') k1
        try have g2 := cell_gr (Below.trans HC.out hw') k2
        go_simp
        with_reducible rfl
      simp only [Act.put, List.setIfInBounds_toArray, List.set_cons_zero, List.set_cons_succ]
      -- 9: slot 28
      refine wpG_take (preBelow (wq.heap.size)) (i := 9) (v := ?_) (by kernel_rfl) (some 28) (by kernel_rfl) rfl (by kernel_rfl) (by kernel_rfl) (by kernel_rfl) (fun _ _ _ h => h) (by rfl) (fun w' hw' => ?_) rfl ?_
      rotate_left
      · try have g0 := cell_gr (Below.trans HC.out hw') k0
        try have g1 := cell_gr (Below.trans HC.out hw') k1
        try have g2 := cell_gr (Below.trans HC.out hw') k2
        go_simp
        with_reducible rfl
      simp only [Act.put, List.setIfInBounds_toArray, List.set_cons_zero, List.set_cons_succ]
      -- 10: slot 29
      refine wpG_take (preBelow (wq.heap.size)) (i := 10) (v := ?_) (by kernel_rfl) (some 29) (by kernel_rfl) rfl (by kernel_rfl) (by kernel_rfl) (by kernel_rfl) (fun _ _ _ h => h) (by rfl) (fun w' hw' => ?_) rfl ?_
      rotate_left
      · try have g0 := cell_gr (Below.trans HC.out hw') k0
        try have g1 := cell_gr (Below.trans HC.out hw') k1
        try have g2 := cell_gr (Below.trans HC.out hw') k2
        go_simp
        with_reducible rfl
      simp only [Act.put, List.setIfInBounds_toArray, List.set_cons_zero, List.set_cons_succ]
      -- 11: slot 30
      refine wpG_take (preBelow (wq.heap.size)) (i := 11) (v := ?_) (by kernel_rfl) (some 30) (by kernel_rfl) rfl (by kernel_rfl) (by kernel_rfl) (by kernel_rfl) (fun _ _ _ h => h) (by rfl) (fun w' hw' => ?_) rfl ?_
      rotate_left
      · try have g0 := cell_gr (Below.trans HC.out hw') k0
        try have g1 := cell_gr (Below.trans HC.out hw') k1
        try have g2 := cell_gr (Below.trans HC.out hw') k2
        go_simp
        with_reducible rfl
      simp only [Act.put, List.setIfInBounds_toArray, List.set_cons_zero, List.set_cons_succ]
      refine wpG_two (i := 6) (j := 12) rfl rfl (by kernel_rfl) (by rfl) (by rfl) ?_ ?_
      · go_simp
        have hA : Below wc.heap.size wc (wc.alloc (.cells #[.int .u8 (X : Int), .int .u8 (Y : Int)] 5)) := (Below.refl _ _).alloc (Nat.le_refl _) _
        have hAq : Below wq.heap.size wc (wc.alloc (.cells #[.int .u8 (X : Int), .int .u8 (Y : Int)] 5)) := hA.mono HC.out.size
        refine ⟨hAq, ?_⟩
        have HC' : Hid (Gr wq (wc.alloc (.cells #[.int .u8 (X : Int), .int .u8 (Y : Int)] 5))) := Below.trans HC.out hAq
        have hs := ownsRow_mono (own_new wc [Value.int .u8 (X : Int), .int .u8 (Y : Int)] 5 2 1 rfl (by decide)) (base' := wq.heap.size) HC.out.size
        have HS : Hid ((wc.alloc (.cells #[.int .u8 (X : Int), .int .u8 (Y : Int)] 5)).ownsRow wq.heap.size 5 1 (.slice (some ⟨wc.heap.size, 0, none⟩) 2 2) 2 [Value.int .u8 (X : Int), .int .u8 (Y : Int)]) := hs
        clear hs
        try have HP' := Lib.hid (HP.out.below hA)
        try clear HP
        try (have HP := HP'; clear HP')
        clear HC hA hAq
        first
          | generalize wc.alloc (.cells #[.int .u8 (X : Int), .int .u8 (Y : Int)] 5) = wd at HC' HS HP ⊢
          | generalize wc.alloc (.cells #[.int .u8 (X : Int), .int .u8 (Y : Int)] 5) = wd at HC' HS ⊢
        generalize Value.slice (some ⟨wc.heap.size, 0, none⟩) 2 2 = S6 at HS ⊢
        have HC := HC'
        clear HC'
        obtain ⟨wc, hwc⟩ : ∃ x, x = wd := ⟨_, rfl⟩
        subst hwc
        try simp only [Act.put, List.setIfInBounds_toArray, List.set_cons_zero, List.set_cons_succ]
        refine wpG_one (i := 12) rfl (by kernel_rfl) (by rfl) ?_
        go_simp
        refine (PT.out _).mono ?_
        rintro e w2 ⟨v2, rfl, hown2, hb2⟩
        have hq : Below wq.heap.size wc w2 := hb2.mono HC.out.size
        refine ⟨hq, ?_⟩
        have HP := Lib.hid (hown2.mono HC.out.size)
        have HC' : Hid (Gr wq w2) := Below.trans HC.out hq
        try have HS' := Lib.hid (ownsRow_below HS.out hb2)
        try clear HS
        try (have HS := HS'; clear HS')
        clear HC hown2 hb2 hq
        have HC := HC'
        clear HC'
        obtain ⟨wc, hwc⟩ : ∃ x, x = w2 := ⟨_, rfl⟩
        subst hwc
        try simp only [Act.put, List.setIfInBounds_toArray, List.set_cons_zero, List.set_cons_succ]
        refine wpG_one (i := 13) rfl (by kernel_rfl) (by rfl) ?_
        have HR : Hid (Rd wc 1 v2 2 ((putL M 2).map u8v)) := HP.out.bs
        refine wp_append_gr _ (some 32) (.tmp 25) (.tmp 31) 22 rfl wq.heap.size 5 i0 (.int .u8 0) 1 1 Try.underlying22 hi hz0 hz1 hz2 rfl (by decide) _ _ _ rfl HS.out _ _ _ rfl HR.out (oneCell_u8 _) (by decide) (by decide) HC.out.size rfl ?_
        intro v7 w7 hown7 hg7
        have hb7 : Below wq.heap.size wc w7 := grown_below HS.out HC.out.size hg7
        refine ⟨hb7, ?_⟩
        have HC7 : Hid (Gr wq w7) := Below.trans HC.out hb7
        rw [HE2.out] at hown7
        have HO7 : Hid (OwnB w7 w.heap.size 5 v7 ([UInt8.ofNat X, UInt8.ofNat Y] ++ putL M 2)) := (OwnB.of_app hown7 rfl (putL_length _ _)).mono HB.out.size
        clear hown7 hg7 hb7 HR HS HP HC
        try simp only [Act.put, List.setIfInBounds_toArray, List.set_cons_zero, List.set_cons_succ]
        -- 14: slot 4
        refine wpG_take (preBelow (wq.heap.size)) (i := 14) (v := ?_) (by kernel_rfl) (some 4) (by kernel_rfl) rfl (by kernel_rfl) (by kernel_rfl) (by kernel_rfl) (fun _ _ _ h => h) (by rfl) (fun w' hw' => ?_) rfl ?_
        rotate_left
        · try have g0 := cell_gr (Below.trans HC.out hw') k0
          try have g1 := cell_gr (Below.trans HC.out hw') k1
          try have g2 := cell_gr (Below.trans HC.out hw') k2
          go_simp
          with_reducible rfl
        simp only [Act.put, List.setIfInBounds_toArray, List.set_cons_zero, List.set_cons_succ]
        refine wpG_done (by kernel_rfl) ?_ _
        have HB7 := Lib.hid (HB.out.trans (Below.mono HC7.out HB.out.size))
        have HG7 := Lib.hid (heap_gr HC7.out HG0.out)
        have HV7 : Hid (Rd w7 1 (.slice A L K) L (l.map u8v)) := by
          have := HV.out.below HB7.out
          unfold Bs at this
          rw [HL.out] at this
          exact this
        clear k0 k1 k2 HC7
        obtain ⟨k0, k1, k2⟩ := cells3 HG7.out
        go_wp2_with (at_builtin; refine wpList_append_gr _ rfl _ _ 22 rfl w.heap.size 5 i0 (.int .u8 0) 1 1 Try.underlying22 hi hz0 hz1 hz2 rfl (by decide) _ _ _ rfl HO7.out _ _ _ rfl HV7.out (oneCell_u8 _) ?q1 (by decide) HB7.out.size ?_)
        case q1 => simp [putL_length]; omega
        intro v8 w8 hown8 hg8
        have HB8 := Lib.hid (HB7.out.trans (grown_below HO7.out HB7.out.size hg8))
        have HO8 : Hid (OwnB w8 w.heap.size 5 v8 (wireC ⟨X, Y, l⟩)) := by
          show OwnB _ _ _ _ _
          rw [wireC_eq, show 4 + l.length = M by rw [HL.out]; omega]
          exact OwnB.of_app hown8 (by simp [putL_length]) HL.out
        clear hown8 hg8 k0 k1 k2
        go_wp2
        go_ret2
        exact BRes.some HE.out (cencB_yes HE.out) HO8.out HB8.out
      · go_simp
        refine (PT.out _).mono ?_
        rintro e w2 ⟨v2, rfl, hown2, hb2⟩
        have hq : Below wq.heap.size wc w2 := hb2.mono HC.out.size
        refine ⟨hq, ?_⟩
        have HP := Lib.hid (hown2.mono HC.out.size)
        have HC' : Hid (Gr wq w2) := Below.trans HC.out hq
        try have HS' := Lib.hid (ownsRow_below HS.out hb2)
        try clear HS
        try (have HS := HS'; clear HS')
        clear HC hown2 hb2 hq
        have HC := HC'
        clear HC'
        obtain ⟨wc, hwc⟩ : ∃ x, x = w2 := ⟨_, rfl⟩
        subst hwc
        try simp only [Act.put, List.setIfInBounds_toArray, List.set_cons_zero, List.set_cons_succ]
        refine wpG_one (i := 6) rfl (by kernel_rfl) (by rfl) ?_
        go_simp
        have hA : Below wc.heap.size wc (wc.alloc (.cells #[.int .u8 (X : Int), .int .u8 (Y : Int)] 5)) := (Below.refl _ _).alloc (Nat.le_refl _) _
        have hAq : Below wq.heap.size wc (wc.alloc (.cells #[.int .u8 (X : Int), .int .u8 (Y : Int)] 5)) := hA.mono HC.out.size
        refine ⟨hAq, ?_⟩
        have HC' : Hid (Gr wq (wc.alloc (.cells #[.int .u8 (X : Int), .int .u8 (Y : Int)] 5))) := Below.trans HC.out hAq
        have hs := ownsRow_mono (own_new wc [Value.int .u8 (X : Int), .int .u8 (Y : Int)] 5 2 1 rfl (by decide)) (base' := wq.heap.size) HC.out.size
        have HS : Hid ((wc.alloc (.cells #[.int .u8 (X : Int), .int .u8 (Y : Int)] 5)).ownsRow wq.heap.size 5 1 (.slice (some ⟨wc.heap.size, 0, none⟩) 2 2) 2 [Value.int .u8 (X : Int), .int .u8 (Y : Int)]) := hs
        clear hs
        try have HP' := Lib.hid (HP.out.below hA)
        try clear HP
        try (have HP := HP'; clear HP')
        clear HC hA hAq
        first
          | generalize wc.alloc (.cells #[.int .u8 (X : Int), .int .u8 (Y : Int)] 5) = wd at HC' HS HP ⊢
          | generalize wc.alloc (.cells #[.int .u8 (X : Int), .int .u8 (Y : Int)] 5) = wd at HC' HS ⊢
        generalize Value.slice (some ⟨wc.heap.size, 0, none⟩) 2 2 = S6 at HS ⊢
        have HC := HC'
        clear HC'
        obtain ⟨wc, hwc⟩ : ∃ x, x = wd := ⟨_, rfl⟩
        subst hwc
        try simp only [Act.put, List.setIfInBounds_toArray, List.set_cons_zero, List.set_cons_succ]
        refine wpG_one (i := 13) rfl (by kernel_rfl) (by rfl) ?_
        have HR : Hid (Rd wc 1 v2 2 ((putL M 2).map u8v)) := HP.out.bs
        refine wp_append_gr _ (some 32) (.tmp 25) (.tmp 31) 22 rfl wq.heap.size 5 i0 (.int .u8 0) 1 1 Try.underlying22 hi hz0 hz1 hz2 rfl (by decide) _ _ _ rfl HS.out _ _ _ rfl HR.out (oneCell_u8 _) (by decide) (by decide) HC.out.size rfl ?_
        intro v7 w7 hown7 hg7
        have hb7 : Below wq.heap.size wc w7 := grown_below HS.out HC.out.size hg7
        refine ⟨hb7, ?_⟩
        have HC7 : Hid (Gr wq w7) := Below.trans HC.out hb7
        rw [HE2.out] at hown7
        have HO7 : Hid (OwnB w7 w.heap.size 5 v7 ([UInt8.ofNat X, UInt8.ofNat Y] ++ putL M 2)) := (OwnB.of_app hown7 rfl (putL_length _ _)).mono HB.out.size
        clear hown7 hg7 hb7 HR HS HP HC
        try simp only [Act.put, List.setIfInBounds_toArray, List.set_cons_zero, List.set_cons_succ]
        -- 14: slot 4
        refine wpG_take (preBelow (wq.heap.size)) (i := 14) (v := ?_) (by kernel_rfl) (some 4) (by kernel_rfl) rfl (by kernel_rfl) (by kernel_rfl) (by kernel_rfl) (fun _ _ _ h => h) (by rfl) (fun w' hw' => ?_) rfl ?_
        rotate_left
        · try have g0 := cell_gr (Below.trans HC.out hw') k0
          try have g1 := cell_gr (Below.trans HC.out hw') k1
          try have g2 := cell_gr (Below.trans HC.out hw') k2
          go_simp
          with_reducible rfl
        simp only [Act.put, List.setIfInBounds_toArray, List.set_cons_zero, List.set_cons_succ]
        refine wpG_done (by kernel_rfl) ?_ _
        have HB7 := Lib.hid (HB.out.trans (Below.mono HC7.out HB.out.size))
        have HG7 := Lib.hid (heap_gr HC7.out HG0.out)
        have HV7 : Hid (Rd w7 1 (.slice A L K) L (l.map u8v)) := by
          have := HV.out.below HB7.out
          unfold Bs at this
          rw [HL.out] at this
          exact this
        clear k0 k1 k2 HC7
        obtain ⟨k0, k1, k2⟩ := cells3 HG7.out
        go_wp2_with (at_builtin; refine wpList_append_gr _ rfl _ _ 22 rfl w.heap.size 5 i0 (.int .u8 0) 1 1 Try.underlying22 hi hz0 hz1 hz2 rfl (by decide) _ _ _ rfl HO7.out _ _ _ rfl HV7.out (oneCell_u8 _) ?q1 (by decide) HB7.out.size ?_)
        case q1 => simp [putL_length]; omega
        intro v8 w8 hown8 hg8
        have HB8 := Lib.hid (HB7.out.trans (grown_below HO7.out HB7.out.size hg8))
        have HO8 : Hid (OwnB w8 w.heap.size 5 v8 (wireC ⟨X, Y, l⟩)) := by
          show OwnB _ _ _ _ _
          rw [wireC_eq, show 4 + l.length = M by rw [HL.out]; omega]
          exact OwnB.of_app hown8 (by simp [putL_length]) HL.out
        clear hown8 hg8 k0 k1 k2
        go_wp2
        go_ret2
        exact BRes.some HE.out (cencB_yes HE.out) HO8.out HB8.out
end Go.Proofs.Ythllhdcdiidfpaa
