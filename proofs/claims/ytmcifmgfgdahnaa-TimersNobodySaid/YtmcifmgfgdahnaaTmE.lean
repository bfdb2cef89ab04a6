/-
  container/heap: Fix, Push, Remove.
-/
import Derived.Test.YtmcifmgfgdahnaaTmD
namespace Go.Proofs.Ytmcifmgfgdahnaa.Tm
open Go.RowKit
open Go.Proofs.Ytmcifmgfgdahnaa.Id (Tr Tr.refl Tr.gr Tr.only blk own_blk flatR flatR_len flatR_get flatR_cons flatR_append flatR_one flatR_cell RR)
set_option linter.unusedVariables false
set_option linter.unusedSimpArgs false

theorem HQ.len {w : World} {g b : Nat} {v : Value} {q : List D} (h : HQ w g v b q) : Calls Try.prog 24 #[.pointer (some ⟨g, 0, none⟩)] w fun e w' => e = .returned (.int .i64 (q.length : Int)) ∧ w = w' := by
  obtain ⟨f, hq, _⟩ := h
  exact len_any g w hq
theorem HQ.few {w : World} {g b : Nat} {v : Value} {q : List D} (h : HQ w g v b q) : q.length ≤ 65536 := by
  obtain ⟨f, hq, _⟩ := h
  exact hq.few.1
set_option maxRecDepth 20000 in
theorem fix_any (g i : Nat) {v : Value} {b : Nat} {q : List D} (w : World) (h : HQ w g v b q) (hi : i < q.length) (hu : HE q q.length i) :
    Calls Try.prog 28 #[.iface 49 (.pointer (some ⟨g, 0, none⟩)), .int .i64 (i : Int)] w fun e w' => e = .returned (.tuple #[]) ∧ ∃ q', HQ w' g v b q' ∧ q'.Perm q ∧ Hp q' q'.length ∧ Tr (Fq g v b) w w' := by
  have m1 := mLen g
  have HL := Lib.hid h.len
  have HD := Lib.hid (down_any g i q.length w h hi (Nat.le_refl _) hu)
  have HI := Lib.hid hi
  clear h hu hi
  go_enter Try.func28, Try.ntmps28
  go_wp2_with fail
  refine HL.out.mono ?_
  rintro e w1 ⟨rfl, rfl⟩
  go_wp2_with fail
  refine HD.out.mono ?_
  rintro e w1 ⟨r, q', rfl, hq, hmv, hdn, ht⟩
  have HQ1 := Lib.hid hq
  have HMV := Lib.hid hmv
  have HDN := Lib.hid hdn
  have HT := Lib.hid ht
  clear hq hmv hdn ht HL HD
  cases r with
  | true =>
    go_wp2_with fail
    go_end0
    refine ⟨rfl, q', HQ1.out, HMV.out.1, ?_, HT.out⟩
    rw [HMV.out.len]
    exact HDN.out.1 rfl
  | false =>
    obtain ⟨e1, hu⟩ := HDN.out.2 rfl
    have HU1 := Lib.hid (up_any g i q.length w1 HQ1.out HI.out (by rw [e1]; exact Nat.le_refl _) (by rw [e1]; exact hu))
    clear e1 hu
    go_wp2_with fail
    refine HU1.out.mono ?_
    rintro e w2 ⟨rfl, q2, hq, hmv, hp, ht⟩
    have HQ2 := Lib.hid hq
    have HMV2 := Lib.hid hmv
    have HP2 := Lib.hid hp
    have HT2 := Lib.hid (HT.out.trans ht (fun _ h => .inl h) : Tr (Fq g v b) w w2)
    clear hq hmv hp ht HU1
    go_wp2_with fail
    go_end0
    refine ⟨rfl, q2, HQ2.out, HMV2.out.1.trans HMV.out.1, ?_, HT2.out⟩
    rw [HMV2.out.len, HMV.out.len]
    exact HP2.out
set_option maxRecDepth 20000 in
theorem hpush_any (g : Nat) {v : Value} {b : Nat} {q : List D} {f : Int → Option Nat} (d : D) (w : World) (h : QAt w g v b q f (q.length + 1)) (hf : Ties (q ++ [d]) f) (hn : q.length < 65536) (hk : I64 d.1) (hp : Hp q q.length) :
    Calls Try.prog 29 #[.iface 49 (.pointer (some ⟨g, 0, none⟩)), .iface 56 (.agg #[.int .i64 d.1, .int .i64 d.2])] w fun e w' => e = .returned (.tuple #[]) ∧ ∃ v' q', HQ w' g v' b q' ∧ q'.Perm (q ++ [d]) ∧ Hp q' q'.length ∧ Stp g b v v' w w' := by
  have m1 := mPush g
  have m2 := mLen g
  have HP := Lib.hid (push_any g d w h hn hk)
  have HF := Lib.hid hf
  have HU0 := Lib.hid (HU.push hp (d := d))
  have hl : (q ++ [d]).length = q.length + 1 := by simp
  have HL := Lib.hid hl
  obtain ⟨L, hL⟩ : ∃ L, L = q.length := ⟨_, rfl⟩
  have x1 : wrap64 (L : Int) = (L : Int) := wrap64_in (by omega) (by omega)
  have x2 : ((L + 1 : Nat) : Int) = (L : Int) + 1 := by omega
  have HX := Lib.hid hL
  rw [← hL] at HU0 HL
  clear h hf hk hp hl hL hn
  go_enter Try.func29, Try.ntmps29
  go_wp2_with fail
  refine HP.out.mono ?_
  rintro e w1 ⟨rfl, v1, hq, hs⟩
  have HQ1 : Hid (HQ w1 g v1 b (q ++ [d])) := ⟨f, by rw [HL.out, HX.out]; exact hq, HF.out⟩
  have HS := Lib.hid hs
  have HLN := Lib.hid HQ1.out.len
  rw [HL.out, x2] at HLN
  have HUP := Lib.hid (up_any g L (L + 1) w1 HQ1.out (Nat.lt_succ_self _) (by rw [HL.out]; exact Nat.le_refl _) HU0.out)
  clear hq hs HP x2
  go_wp2_with fail
  refine HLN.out.mono ?_
  rintro e w2 ⟨rfl, rfl⟩
  go_wp2_with fail
  try rw [x1]
  refine HUP.out.mono ?_
  rintro e w2 ⟨rfl, q2, hq, hmv, hp, ht⟩
  have HQ2 := Lib.hid hq
  have HMV2 := Lib.hid hmv
  have HP2 := Lib.hid hp
  have HS2 := Lib.hid (HS.out.trans (Stp.of ht))
  clear hq hmv hp ht HUP HLN x1
  go_wp2_with fail
  go_end0
  refine ⟨rfl, v1, q2, HQ2.out, HMV2.out.1, ?_, HS2.out⟩
  rw [HMV2.out.len, HL.out]
  exact HP2.out
/-- What a timer's taking away leaves. -/
def Gone (g : Nat) (v : Value) (b : Nat) (q : List D) (i : Nat) (w w' : World) : Prop :=
  ∃ v' q' f', QAt w' g v' b q' f' (q'.length + 1) ∧ Ties (q' ++ [at_ q i]) f' ∧ (q' ++ [at_ q i]).Perm q ∧ Hp q' q'.length ∧ Stp g b v v' w w'
theorem gone_last {g n : Nat} {v : Value} {b : Nat} {q q2 : List D} {i : Nat} {w w1 : World} (h : HQ w1 g v b q2) (hp : q2.Perm q) (hl : q2.length = n + 1) (ha : at_ q2 n = at_ q i) (hh : Hp q2 n) (ht : Tr (Fq g v b) w w1) :
    Calls Try.prog 78 #[.pointer (some ⟨g, 0, none⟩)] w1 fun e w' => e = .returned (.iface 56 (.agg #[.int .i64 (at_ q i).1, .int .i64 (at_ q i).2])) ∧ Gone g v b q i w w' := by
  obtain ⟨f, hq, hf⟩ := h
  have e1 : q2 = q2.take n ++ [at_ q i] := by
    have h1 := (List.take_append_drop n q2).symm
    have h2 : q2.drop n = [at_ q i] := by
      rw [List.drop_eq_getElem_cons (by omega), List.drop_of_length_le (by omega), ← ha, at_get (by omega)]
    rw [h2] at h1
    exact h1
  have hl2 : (q2.take n).length = n := by rw [List.length_take]; omega
  rw [hl, e1] at hq
  rw [e1] at hf hp
  refine (pop_any g (at_ q i) w1 hq).mono fun e w' ⟨he, v', hq', hs⟩ => ⟨he, v', q2.take n, f, by rw [hl2]; exact hq', hf, hp, ?_, (Stp.of ht).trans hs⟩
  rw [hl2]
  exact hh.congr fun k hk => at_take hk
set_option maxRecDepth 20000 in
set_option maxHeartbeats 4000000 in
theorem hremove_any (g i : Nat) {v : Value} {b : Nat} {q : List D} (w : World) (h : HQ w g v b q) (hi : i < q.length) (hp : Hp q q.length) :
    Calls Try.prog 30 #[.iface 49 (.pointer (some ⟨g, 0, none⟩)), .int .i64 (i : Int)] w fun e w' => e = .returned (.iface 56 (.agg #[.int .i64 (at_ q i).1, .int .i64 (at_ q i).2])) ∧ Gone g v b q i w w' := by
  have m1 := mLen g
  have m2 := mSwap g
  have m3 := mPop g
  have HLN := Lib.hid h.len
  have hfew := h.few
  obtain ⟨n, hn⟩ : ∃ n, n = q.length - 1 := ⟨_, rfl⟩
  have hq1 : q.length = n + 1 := by omega
  have HN := Lib.hid hq1
  rw [hq1] at HLN
  have x0 : ((n + 1 : Nat) : Int) = (n : Int) + 1 := by omega
  have x1 : wrap64 (n : Int) = (n : Int) := wrap64_in (by omega) (by omega)
  rw [x0] at HLN
  by_cases hni : n = i
  · subst hni
    have HP := Lib.hid (gone_last (w := w) (i := n) h (List.Perm.refl _) hq1 rfl (hp.mono (by omega)) (Tr.refl _ _))
    clear h hi hp hfew hn hq1 x0
    go_enter Try.func30, Try.ntmps30
    go_wp2_with fail
    refine HLN.out.mono ?_
    rintro e w1 ⟨rfl, rfl⟩
    go_wp2_with fail
    refine HP.out.mono ?_
    rintro e w1 ⟨rfl, hg⟩
    have HG := Lib.hid hg
    clear hg
    go_wp2_with fail
    go_ret
    exact ⟨rfl, HG.out⟩
  · have hne : ((n : Int) != (i : Int)) = true := by rw [bne_iff_ne]; omega
    have hin : i < n := by omega
    have HS := Lib.hid (swap_any g i n w h hi (by omega))
    have HE1 := Lib.hid (HE.cut (i := i) (n := n) (by rw [← hq1]; exact hp) hin (by omega))
    have HA : Hid (at_ (swp q i n) n = at_ q i) := by show _ = _; rw [at_swp hi (by omega), if_pos rfl]
    have HPM := Lib.hid (swp_perm hi (by omega : n < q.length))
    have HIN := Lib.hid hin
    have HLS : Hid ((swp q i n).length = n + 1) := by show _ = _; rw [swp_length]; exact hq1
    clear h hi hp hfew hn hq1 x0 hni hin
    go_enter Try.func30, Try.ntmps30
    go_wp2_with fail
    refine HLN.out.mono ?_
    rintro e w1 ⟨rfl, rfl⟩
    go_wp2_with fail
    try rw [x1]
    refine HS.out.mono ?_
    rintro e w1 ⟨rfl, hq, ht⟩
    have HQ1 := Lib.hid hq
    have HT1 := Lib.hid ht
    have HD := Lib.hid (down_any g i n w1 hq HIN.out (by rw [HLS.out]; omega) HE1.out)
    clear hq ht HS HLN
    go_wp2_with fail
    try rw [x1]
    refine HD.out.mono ?_
    rintro e w2 ⟨r, q', rfl, hq, hmv, hdn, ht⟩
    have HQ2 := Lib.hid hq
    have HMV := Lib.hid hmv
    have HDN := Lib.hid hdn
    have HT2 := Lib.hid (HT1.out.trans ht (fun _ h => .inl h) : Tr (Fq g v b) w w2)
    clear hq hmv hdn ht HD
    cases r with
    | true =>
      have HP := Lib.hid (gone_last (w := w) (i := i) HQ2.out (HMV.out.1.trans HPM.out) (by rw [HMV.out.len]; exact HLS.out) (by rw [HMV.out.2 n (Nat.le_refl _)]; exact HA.out) (HDN.out.1 rfl) HT2.out)
      go_wp2_with fail
      refine HP.out.mono ?_
      rintro e w3 ⟨rfl, hg⟩
      have HG := Lib.hid hg
      clear hg
      go_wp2_with fail
      go_ret
      exact ⟨rfl, HG.out⟩
    | false =>
      obtain ⟨e1, hu⟩ := HDN.out.2 rfl
      have HU1 := Lib.hid (up_any g i n w2 HQ2.out HIN.out (by rw [HMV.out.len, HLS.out]; omega) (by rw [e1]; exact hu))
      clear e1 hu
      go_wp2_with fail
      refine HU1.out.mono ?_
      rintro e w3 ⟨rfl, q2, hq, hmv, hp, ht⟩
      have HP := Lib.hid (gone_last (w := w) (i := i) hq ((hmv.1.trans HMV.out.1).trans HPM.out) (by rw [hmv.len, HMV.out.len]; exact HLS.out) (by rw [hmv.2 n (Nat.le_refl _), HMV.out.2 n (Nat.le_refl _)]; exact HA.out) hp (HT2.out.trans ht (fun _ h => .inl h)))
      clear hq hmv hp ht HU1
      go_wp2_with fail
      refine HP.out.mono ?_
      rintro e w4 ⟨rfl, hg⟩
      have HG := Lib.hid hg
      clear hg
      go_wp2_with fail
      go_ret
      exact ⟨rfl, HG.out⟩
end Go.Proofs.Ytmcifmgfgdahnaa.Tm
