/-
  The document's Decode, whatever bytes come.
-/
import Derived.Test.YteemcckfhadkhaaOpF
namespace Go.Proofs.Yteemcckfhadkhaa.O
open Go.RowKit
set_option linter.unusedVariables false
set_option linter.unusedSimpArgs false

/-- How far it has come, and what has been found. -/
structure DI (l : List UInt8) (w wr : World) (lv : Value) (n p : Nat) (ts : List Tg) : Prop where
  dec : decL [] l = decL (plain ts) (l.drop p)
  own : TO wr w.heap.size lv ts
  few : ts.length ≤ 64
  low : Below w.heap.size w wr

set_option maxRecDepth 20000 in
set_option maxHeartbeats 4000000 in
theorem rdecode_any (a : Option Addr) (n c : Nat) (l : List UInt8) (hn : l.length = n) (w : World) (hb : Bs w (.slice a n c) l) (hr : n ≤ 140737488351232) :
    Calls Try.prog 15 #[.slice a n c] w (DecR l w) := by
  obtain ⟨i0, hi, hz0, hz1, hz2⟩ := info_parts infoT
  obtain ⟨j0, hj, hy0, hy1, hy2⟩ := info_parts info5
  have HN := Lib.hid hn
  have HBS := Lib.hid hb
  by_cases hlong : 1488 < n
  · have HD := Lib.hid (dec_long (l := l) (by omega))
    clear hn hb
    go_enter Try.func15, Try.ntmps15
    go_wp2
    go_ret2
    exact DecR.none HD.out (Below.refl _ _)
  have HD := Lib.hid (dec_fits (l := l) (by omega))
  have HI0 : Hid (DI l w w (.slice none 0 0) n 0 []) := ⟨rfl, TO.nil _ _, Nat.zero_le _, Below.refl _ _⟩
  clear hn hb
  go_enter Try.func15, Try.ntmps15
  go_wp2
  go_loopw [4, 5] (fun lv pv wr => ∃ (p : Nat) (ts : List Tg), pv = .int .i64 p ∧ p ≤ n ∧ Hid (DI l w wr lv n p ts)) (fun _ pv _ => n - (intOf pv).toNat)
  case atStart => exact ⟨0, [], rfl, Nat.zero_le _, HI0⟩
  case round =>
    clear HI0
    obtain ⟨p, ts, rfl, hpn, HI⟩ := hrel
    have HLOW := Lib.hid HI.out.low
    have HOWN := Lib.hid HI.out.own
    have hlow : w.heap.size ≤ wr.heap.size := HLOW.out.size
    have HDL : Hid ((l.drop p).length = n - p) := by show _ = _; rw [List.length_drop, HN.out]
    by_cases h0 : p = n
    · have HD2 : Hid (dec l = (plain ts, 0)) := by
        show _ = _
        rw [HD.out, HI.out.dec]
        exact decL_nil _ _ (by rw [HDL.out]; omega)
      subst h0
      go_wp2
      go_ret2
      exact DecR.some HD2.out HOWN.out HLOW.out
    have hpl : p < n := by omega
    have hbad : ¬ fok (l.drop p) → dec l = ([], 80) := fun h => by
      rw [HD.out, HI.out.dec]
      exact decL_bad _ _ (by rw [HDL.out]; omega) h
    have HBAD := Lib.hid hbad
    clear hbad h0
    by_cases h2 : n - p < 2
    · have HD2 := Lib.hid (HBAD.out fun h => by have := h.1; rw [HDL.out] at this; omega)
      go_wp2
      go_ret2
      exact DecR.none HD2.out HLOW.out
    obtain ⟨b, o, rfl, hbl, hcell⟩ := HBS.out.cells (by rw [HN.out]; omega)
    obtain ⟨_, _, es0, hcc, hcm⟩ := HBS.out.shape
    simp only [Value.slice.injEq] at es0
    obtain ⟨rfl, z0, rfl⟩ := es0
    rw [HN.out] at hcc
    clear z0
    unfold maxLen at hcm
    have hc0 := hcell p (by rw [HN.out]; omega)
    have hc1 := hcell (p + 1) (by rw [HN.out]; omega)
    rw [← bN_get l p (by rw [HN.out]; omega)] at hc0
    rw [← bN_get l (p + 1) (by rw [HN.out]; omega)] at hc1
    have hX8 := bN_lt l p
    have hK8 := bN_lt l (p + 1)
    obtain ⟨X, hX⟩ : ∃ X, X = bN l p := ⟨_, rfl⟩
    obtain ⟨K, hK⟩ : ∃ K, K = bN l (p + 1) := ⟨_, rfl⟩
    rw [← hX] at hc0 hX8
    rw [← hK] at hc1 hK8
    have HX : Hid (bN (l.drop p) 0 = X) := by show _ = _; rw [bN_drop, hX]; rfl
    have HK : Hid (bN (l.drop p) 1 = K) := by show _ = _; rw [bN_drop, hK]
    have k1 := cell_gr HLOW.out hc1
    have HC0 := Lib.hid hc0
    clear hX hK hcell hc0 hc1
    by_cases hk2 : K < 2
    · have HD2 := Lib.hid (HBAD.out fun h => by have := h.2.1; rw [HK.out] at this; omega)
      go_wp2
      go_ret2
      exact DecR.none HD2.out HLOW.out
    by_cases hkn : n - p < K
    · have HD2 := Lib.hid (HBAD.out fun h => by have := h.2.2; rw [HK.out, HDL.out] at this; omega)
      go_wp2
      go_ret2
      exact DecR.none HD2.out HLOW.out
    have HF : Hid (fok (l.drop p)) := by show _ ∧ _ ∧ _; rw [HK.out, HDL.out]; omega
    obtain ⟨N, hN⟩ : ∃ N, N = ts.length := ⟨_, rfl⟩
    obtain ⟨al, cl, evl, _, _⟩ := HOWN.out.tr.shape
    rw [← hN] at evl
    subst evl
    have HNN := Lib.hid hN
    have hN64 : N ≤ 64 := by rw [hN]; exact HI.out.few
    clear hN
    by_cases h64 : N = 64
    · have HD2 : Hid (dec l = ([], 3)) := by
        show _ = _
        rw [HD.out, HI.out.dec]
        exact decL_many _ _ HF.out (by rw [plain_length, ← HNN.out]; exact h64)
      subst h64
      go_wp2
      go_ret2
      exact DecR.none HD2.out HLOW.out
    have h64' : ((N : Int) == 64) = false := by rw [beq_eq_false_iff_ne]; omega
    have hN63 : N + 1 ≤ 64 := by omega
    have hb1 : Rd w 1 (.slice (some ⟨b, o, none⟩) n c) n (l.map u8v) := by
      have := HBS.out
      unfold Bs at this
      rw [HN.out] at this
      exact this
    obtain ⟨P2, hP2⟩ : ∃ P2 : Nat, (p : Int) + 2 = (P2 : Int) := ⟨p + 2, by omega⟩
    obtain ⟨Q2, hQ2⟩ : ∃ Q2 : Nat, (p : Int) + (K : Int) = (Q2 : Int) := ⟨p + K, by omega⟩
    obtain ⟨a5, hs5, hr5⟩ := slice_range (P := Try.prog) Try.underlying23 hj hy1 hb1 .i64 .i64 P2 Q2 P2 Q2 rfl rfl (by omega) (by omega)
    rw [drop_u8, take_u8', show Q2 - P2 = K - 2 by omega, show P2 = p + 2 by omega, ← List.drop_drop] at hr5
    rw [show Q2 - P2 = K - 2 by omega] at hs5
    have HS5 : Hid (Rd w 1 (.slice a5 (K - 2) (c - (p + 2))) (K - 2) ((((l.drop p).drop 2).take (K - 2)).map u8v)) := hr5
    rw [show c - P2 = c - (p + 2) by omega] at hs5
    have hl5 : (((l.drop p).drop 2).take (K - 2)).length = K - 2 := by rw [List.length_take, List.length_drop, HDL.out]; omega
    have HL5 := Lib.hid hl5
    have HP : Hid (headP (l.drop p) = ((X : Int), ((l.drop p).drop 2).take (K - 2))) := by show _ = _; unfold headP; rw [HX.out, HK.out]
    have HD2 : Hid (∀ V, decL [] l = decL (plain (ts ++ [(⟨(X : Int), V, ((l.drop p).drop 2).take (K - 2)⟩ : Tg)])) (l.drop (p + K))) := fun V => by
      rw [HI.out.dec, decL_next _ _ HF.out (by rw [plain_length, ← HNN.out]; omega), HP.out, HK.out, plain_append, show l.drop (p + K) = (l.drop p).drop K by rw [List.drop_drop]]
      rfl
    have W1 : IntKind.i64.wrap ((p : Int) + 2) = (P2 : Int) := by rw [hP2]; exact IntWalk.i64_in _ (by omega)
    have W2 : IntKind.i64.wrap (P2 : Int) = (P2 : Int) := IntWalk.i64_in _ (by omega)
    have W3 : IntKind.i64.wrap ((p : Int) + (K : Int)) = (Q2 : Int) := by rw [hQ2]; exact IntWalk.i64_in _ (by omega)
    have W4 : IntKind.i64.wrap (Q2 : Int) = (Q2 : Int) := IntWalk.i64_in _ (by omega)
    have W5 : IntKind.i64.wrap (X : Int) = (X : Int) := IntWalk.i64_in _ (by omega)
    have i0' : (p : Int) < (n : Int) := by omega
    clear hb1 hr5 hl5 h64
    go_wp2_with fail
    refine wp_region_G 19 (Below (w.heap.size)) (by kernel_rfl) ?_
    -- 0: slot 38
    refine wpG_take (preBelow (w.heap.size)) (i := 0) (v := ?_) (by kernel_rfl) (some 38) (by kernel_rfl) rfl (by kernel_rfl) (by kernel_rfl) (by kernel_rfl) (fun _ _ _ h => h) (by rfl) (fun w' hw' => ?_) rfl ?_
    rotate_left
    · try have g0 := cell_gr (HLOW.out.trans ((Below.drew (Below.refl w.heap.size wr)).trans hw')) HC0.out
      go_simp
      with_reducible rfl
    simp only [Act.put, List.setIfInBounds_toArray, List.set_cons_zero, List.set_cons_succ]
    -- 1: slot 39
    refine wpG_take (preBelow (w.heap.size)) (i := 1) (v := ?_) (by kernel_rfl) (some 39) (by kernel_rfl) rfl (by kernel_rfl) (by kernel_rfl) (by kernel_rfl) (fun _ _ _ h => h) (by rfl) (fun w' hw' => ?_) rfl ?_
    rotate_left
    · try have g0 := cell_gr (HLOW.out.trans ((Below.drew (Below.refl w.heap.size wr)).trans hw')) HC0.out
      go_simp
      with_reducible rfl
    simp only [Act.put, List.setIfInBounds_toArray, List.set_cons_zero, List.set_cons_succ]
    -- 2: slot 40
    refine wpG_take (preBelow (w.heap.size)) (i := 2) (v := ?_) (by kernel_rfl) (some 40) (by kernel_rfl) rfl (by kernel_rfl) (by kernel_rfl) (by kernel_rfl) (fun _ _ _ h => h) (by rfl) (fun w' hw' => ?_) rfl ?_
    rotate_left
    · try have g0 := cell_gr (HLOW.out.trans ((Below.drew (Below.refl w.heap.size wr)).trans hw')) HC0.out
      go_simp
      with_reducible rfl
    simp only [Act.put, List.setIfInBounds_toArray, List.set_cons_zero, List.set_cons_succ]
    -- 3: slot 41
    refine wpG_take (preBelow (w.heap.size)) (i := 3) (v := ?_) (by kernel_rfl) (some 41) (by kernel_rfl) rfl (by kernel_rfl) (by kernel_rfl) (by kernel_rfl) (fun _ _ _ h => h) (by rfl) (fun w' hw' => ?_) rfl ?_
    rotate_left
    · try have g0 := cell_gr (HLOW.out.trans ((Below.drew (Below.refl w.heap.size wr)).trans hw')) HC0.out
      go_simp
      with_reducible rfl
    simp only [Act.put, List.setIfInBounds_toArray, List.set_cons_zero, List.set_cons_succ]
    -- 4: slot 42
    refine wpG_take (preBelow (w.heap.size)) (i := 4) (v := ?_) (by kernel_rfl) (some 42) (by kernel_rfl) rfl (by kernel_rfl) (by kernel_rfl) (by kernel_rfl) (fun _ _ _ h => h) (by rfl) (fun w' hw' => ?_) rfl ?_
    rotate_left
    · try have g0 := cell_gr (HLOW.out.trans ((Below.drew (Below.refl w.heap.size wr)).trans hw')) HC0.out
      go_simp
      with_reducible rfl
    simp only [Act.put, List.setIfInBounds_toArray, List.set_cons_zero, List.set_cons_succ]
    -- 5: slot 43
    refine wpG_take (preBelow (w.heap.size)) (i := 5) (v := ?_) (by kernel_rfl) (some 43) (by kernel_rfl) rfl (by kernel_rfl) (by kernel_rfl) (by kernel_rfl) (fun _ _ _ h => h) (by rfl) (fun w' hw' => ?_) rfl ?_
    rotate_left
    · try have g0 := cell_gr (HLOW.out.trans ((Below.drew (Below.refl w.heap.size wr)).trans hw')) HC0.out
      go_simp
      with_reducible rfl
    simp only [Act.put, List.setIfInBounds_toArray, List.set_cons_zero, List.set_cons_succ]
    -- 7: slot 45
    refine wpG_take (preBelow (w.heap.size)) (i := 7) (v := ?_) (by kernel_rfl) (some 45) (by kernel_rfl) rfl (by kernel_rfl) (by kernel_rfl) (by kernel_rfl) (fun _ _ _ h => h) (by rfl) (fun w' hw' => ?_) rfl ?_
    rotate_left
    · try have g0 := cell_gr (HLOW.out.trans ((Below.drew (Below.refl w.heap.size wr)).trans hw')) HC0.out
      go_simp
      with_reducible rfl
    simp only [Act.put, List.setIfInBounds_toArray, List.set_cons_zero, List.set_cons_succ]
    -- 8: slot 46
    refine wpG_take (preBelow (w.heap.size)) (i := 8) (v := ?_) (by kernel_rfl) (some 46) (by kernel_rfl) rfl (by kernel_rfl) (by kernel_rfl) (by kernel_rfl) (fun _ _ _ h => h) (by rfl) (fun w' hw' => ?_) rfl ?_
    rotate_left
    · try have g0 := cell_gr (HLOW.out.trans ((Below.drew (Below.refl w.heap.size wr)).trans hw')) HC0.out
      go_simp
      with_reducible rfl
    simp only [Act.put, List.setIfInBounds_toArray, List.set_cons_zero, List.set_cons_succ]
    -- 9: slot 47
    refine wpG_take (preBelow (w.heap.size)) (i := 9) (v := ?_) (by kernel_rfl) (some 47) (by kernel_rfl) rfl (by kernel_rfl) (by kernel_rfl) (by kernel_rfl) (fun _ _ _ h => h) (by rfl) (fun w' hw' => ?_) rfl ?_
    rotate_left
    · try have g0 := cell_gr (HLOW.out.trans ((Below.drew (Below.refl w.heap.size wr)).trans hw')) HC0.out
      go_simp
      with_reducible rfl
    simp only [Act.put, List.setIfInBounds_toArray, List.set_cons_zero, List.set_cons_succ]
    -- 10: slot 48
    refine wpG_take (preBelow (w.heap.size)) (i := 10) (v := ?_) (by kernel_rfl) (some 48) (by kernel_rfl) rfl (by kernel_rfl) (by kernel_rfl) (by kernel_rfl) (fun _ _ _ h => h) (by rfl) (fun w' hw' => ?_) rfl ?_
    rotate_left
    · try have g0 := cell_gr (HLOW.out.trans ((Below.drew (Below.refl w.heap.size wr)).trans hw')) HC0.out
      go_simp
      with_reducible rfl
    simp only [Act.put, List.setIfInBounds_toArray, List.set_cons_zero, List.set_cons_succ]
    -- 11: slot 49
    refine wpG_take (preBelow (w.heap.size)) (i := 11) (v := ?_) (by kernel_rfl) (some 49) (by kernel_rfl) rfl (by kernel_rfl) (by kernel_rfl) (by kernel_rfl) (fun _ _ _ h => h) (by rfl) (fun w' hw' => ?_) rfl ?_
    rotate_left
    · try have g0 := cell_gr (HLOW.out.trans ((Below.drew (Below.refl w.heap.size wr)).trans hw')) HC0.out
      go_simp
      with_reducible rfl
    simp only [Act.put, List.setIfInBounds_toArray, List.set_cons_zero, List.set_cons_succ]
    -- 12: slot 50
    refine wpG_take (preBelow (w.heap.size)) (i := 12) (v := ?_) (by kernel_rfl) (some 50) (by kernel_rfl) rfl (by kernel_rfl) (by kernel_rfl) (by kernel_rfl) (fun _ _ _ h => h) (by rfl) (fun w' hw' => ?_) rfl ?_
    rotate_left
    · try have g0 := cell_gr (HLOW.out.trans ((Below.drew (Below.refl w.heap.size wr)).trans hw')) HC0.out
      go_simp
      with_reducible rfl
    simp only [Act.put, List.setIfInBounds_toArray, List.set_cons_zero, List.set_cons_succ]
    -- 13: slot 51
    refine wpG_take (preBelow (w.heap.size)) (i := 13) (v := ?_) (by kernel_rfl) (some 51) (by kernel_rfl) rfl (by kernel_rfl) (by kernel_rfl) (by kernel_rfl) (fun _ _ _ h => h) (by rfl) (fun w' hw' => ?_) rfl ?_
    rotate_left
    · try have g0 := cell_gr (HLOW.out.trans ((Below.drew (Below.refl w.heap.size wr)).trans hw')) HC0.out
      go_simp
      with_reducible rfl
    simp only [Act.put, List.setIfInBounds_toArray, List.set_cons_zero, List.set_cons_succ]
    refine wpG_one (i := 6) rfl (by kernel_rfl) (by rfl) ?_
    go_simp
    have hA : Below wr.drew.heap.size wr.drew (wr.drew.alloc (.cells #[] 5)) := (Below.refl _ _).alloc (Nat.le_refl _) _
    refine ⟨hA.mono hlow, ?_⟩
    have HOE : Hid ((wr.drew.alloc (.cells #[] 5)).ownsRow wr.heap.size 5 1 (.slice (some ⟨wr.heap.size, 0, none⟩) 0 0) 0 []) := World.ownsRow_made (base := wr.drew.heap.size) _ _ _ (Nat.le_refl _) (Nat.zero_le _) rfl
    have HLO1 : Hid (Below w.heap.size w (wr.drew.alloc (.cells #[] 5))) := HLOW.out.drew.trans (hA.mono hlow)
    have HQ1 : Hid (Gr wr (wr.drew.alloc (.cells #[] 5))) := (Gr.drew wr).trans hA
    clear hA
    try simp only [Act.put, List.setIfInBounds_toArray, List.set_cons_zero, List.set_cons_succ]
    refine wpG_one (i := 14) rfl (by kernel_rfl) (by rfl) ?_
    have HRA := Lib.hid (HS5.out.below HLO1.out)
    refine wp_append_gr _ (some 52) (.tmp 44) (.tmp 51) 23 rfl wr.heap.size 5 j0 (.int .u8 0) 1 1 Try.underlying23 hj hy0 hy1 hy2 rfl (by decide) _ _ _ rfl HOE.out _ _ _ rfl HRA.out (oneCell_u8 _) ?q1 (by decide) HQ1.out.size rfl ?_
    case q1 => omega
    intro v1 w1 ho1 hg1
    have hb1 := grown_below HOE.out HQ1.out.size hg1
    refine ⟨hb1.mono hlow, ?_⟩
    have hq1 : Gr wr w1 := Below.trans HQ1.out hb1
    have HOV : Hid (OwnB w1 w.heap.size 5 v1 (((l.drop p).drop 2).take (K - 2))) := by
      show OwnB _ _ _ _ _
      unfold OwnB
      rw [HL5.out]
      exact ownsRow_mono (by simpa using ho1) hlow
    have HOW2 := Lib.hid (HOWN.out.below hq1)
    have HLO2 := Lib.hid (HLOW.out.trans (Below.mono hq1 hlow))
    obtain ⟨A, L, C, ev, hL1, _, _⟩ := HOV.out.bs.sl
    rw [HL5.out] at hL1
    subst hL1
    subst ev
    clear ho1 hg1 hb1 hq1 HOE HRA HQ1
    try simp only [Act.put, List.setIfInBounds_toArray, List.set_cons_zero, List.set_cons_succ]
    -- 15: slot 53
    refine wpG_take (preBelow (w.heap.size)) (i := 15) (v := ?_) (by kernel_rfl) (some 53) (by kernel_rfl) rfl (by kernel_rfl) (by kernel_rfl) (by kernel_rfl) (fun _ _ _ h => h) (by rfl) (fun w' hw' => ?_) rfl ?_
    rotate_left
    · refine Eq.trans (build_run (P := Try.prog) 36 [(0, .tmp 43), (1, .tmp 52)] ?_ #[.int .i64 X, .slice A (K - 2) C] ?_) ?_
      · rfl
      · exact builtT X A (K - 2) C
      · with_reducible rfl
    simp only [Act.put, List.setIfInBounds_toArray, List.set_cons_zero, List.set_cons_succ]
    refine wpG_one (i := 16) rfl (by kernel_rfl) (by rfl) ?_
    go_simp
    have hEB : Below w1.heap.size w1 (w1.alloc (.cells #[.int .i64 (X : Int), .slice A (K - 2) C] 36)) := (Below.refl _ _).alloc (Nat.le_refl _) _
    refine ⟨hEB.mono HLO2.out.size, ?_⟩
    have HLO3 : Hid (Below w.heap.size w (w1.alloc (.cells #[.int .i64 (X : Int), .slice A (K - 2) C] 36))) := HLO2.out.trans (hEB.mono HLO2.out.size)
    have HOW3 := Lib.hid (HOW2.out.below hEB)
    have HOV3 := Lib.hid (HOV.out.below hEB)
    have HRD := Lib.hid (rd_new w1 [.int .i64 (X : Int), .slice A (K - 2) C] 36 1 2 rfl (by decide))
    clear hEB
    try simp only [Act.put, List.setIfInBounds_toArray, List.set_cons_zero, List.set_cons_succ]
    refine wpG_one (i := 17) rfl (by kernel_rfl) (by rfl) ?_
    have hro : (w1.alloc (.cells #[.int .i64 (X : Int), .slice A (K - 2) C] 36)).ownsRow w.heap.size 36 2 (.slice al N cl) ts.length (flat ts) := HOW3.out.own
    refine wp_append_gr _ (some 55) (.tmp 38) (.tmp 54) 22 rfl w.heap.size 36 i0 _ 2 32 Try.underlying22 hi hz0 hz1 hz2 rfl (by decide) _ _ _ rfl hro _ 1 _ rfl HRD.out (one_tag _ rfl) ?p4 (by decide) HLO3.out.size rfl ?_
    case p4 => rw [← HNN.out]; omega
    intro v' wo ho' hg'
    have hb' := grown_below hro HLO3.out.size hg'
    refine ⟨hb', ?_⟩
    have HO4 := Lib.hid (TO.more (t := ⟨(X : Int), .slice A (K - 2) C, ((l.drop p).drop 2).take (K - 2)⟩) HOW3.out HOV3.out ho' hg')
    have HLO4 := Lib.hid (HLO3.out.trans hb')
    clear ho' hg' hb' hro
    try simp only [Act.put, List.setIfInBounds_toArray, List.set_cons_zero, List.set_cons_succ]
    -- 18: slot 4
    refine wpG_take (preBelow (w.heap.size)) (i := 18) (v := ?_) (by kernel_rfl) (some 4) (by kernel_rfl) rfl (by kernel_rfl) (by kernel_rfl) (by kernel_rfl) (fun _ _ _ h => h) (by rfl) (fun w' hw' => ?_) rfl ?_
    rotate_left
    · try have g0 := cell_gr (HLOW.out.trans ((Below.drew (Below.refl w.heap.size wr)).trans hw')) HC0.out
      go_simp
      with_reducible rfl
    simp only [Act.put, List.setIfInBounds_toArray, List.set_cons_zero, List.set_cons_succ]
    refine wpG_done (by kernel_rfl) ?_ _
    have HI2 : Hid (DI l w wo v' n (p + K) (ts ++ [(⟨(X : Int), .slice A (K - 2) C, ((l.drop p).drop 2).take (K - 2)⟩ : Tg)])) := by
      refine ⟨HD2.out _, HO4.out, ?_, HLO4.out⟩
      rw [List.length_append, ← HNN.out]; exact hN63
    clear W1 W2 W3 W4 W5
    go_wp2
    go_roundw
    case rel =>
      have hle : p + K ≤ n := by omega
      first | exact ⟨p + K, _, by go_num, hle, HI2⟩ | ((repeat apply Exists.intro); exact ⟨⟨p + K, _, by go_num, hle, HI2⟩, rfl⟩)
    case measure => simp [intOf]; omega
end Go.Proofs.Yteemcckfhadkhaa.O
