/-
  container/heap: up, down; Fix, Push, Remove.
-/
import Derived.Test.YtmcifmgfgdahnaaTmC
namespace Go.Proofs.Ytmcifmgfgdahnaa.Tm
open Go.RowKit
open Go.Proofs.Ytmcifmgfgdahnaa.Id (Tr Tr.refl Tr.gr Tr.only blk own_blk flatR flatR_len flatR_get flatR_cons flatR_append flatR_one flatR_cell RR)
set_option linter.unusedVariables false
set_option linter.unusedSimpArgs false

theorem mLess (g : Nat) (w : World) : Sem.run Try.prog (method 227 49 (.pointer (some ⟨g, 0, none⟩)) "Less") w = .ok (77, .pointer (some ⟨g, 0, none⟩)) w := by kernel_rfl
theorem mSwap (g : Nat) (w : World) : Sem.run Try.prog (method 227 49 (.pointer (some ⟨g, 0, none⟩)) "Swap") w = .ok (80, .pointer (some ⟨g, 0, none⟩)) w := by kernel_rfl
theorem mLen (g : Nat) (w : World) : Sem.run Try.prog (method 227 49 (.pointer (some ⟨g, 0, none⟩)) "Len") w = .ok (24, .pointer (some ⟨g, 0, none⟩)) w := by kernel_rfl
theorem mPush (g : Nat) (w : World) : Sem.run Try.prog (method 227 49 (.pointer (some ⟨g, 0, none⟩)) "Push") w = .ok (79, .pointer (some ⟨g, 0, none⟩)) w := by kernel_rfl
theorem mPop (g : Nat) (w : World) : Sem.run Try.prog (method 227 49 (.pointer (some ⟨g, 0, none⟩)) "Pop") w = .ok (78, .pointer (some ⟨g, 0, none⟩)) w := by kernel_rfl
/-- What a step up, or down, has left: the same timers, those from m on where they stood. -/
def Moved (q q' : List D) (m : Nat) : Prop := q'.Perm q ∧ ∀ k, m ≤ k → at_ q' k = at_ q k
theorem Moved.refl (q : List D) (m : Nat) : Moved q q m := ⟨List.Perm.refl _, fun _ _ => rfl⟩
theorem Moved.swp {q q' : List D} {m i j : Nat} (h : Moved q q' m) (hm : m ≤ q'.length) (hi : i < m) (hj : j < m) : Moved q (swp q' i j) m :=
  ⟨(swp_perm (by omega) (by omega)).trans h.1, fun k hk => by rw [at_swp (by omega) (by omega), if_neg (by omega), if_neg (by omega)]; exact h.2 k hk⟩
theorem Moved.len {q q' : List D} {m : Nat} (h : Moved q q' m) : q'.length = q.length := h.1.length_eq
set_option maxRecDepth 20000 in
set_option maxHeartbeats 4000000 in
theorem up_any (g j m : Nat) {v : Value} {b : Nat} {q : List D} (w : World) (h : HQ w g v b q) (hj : j < m) (hm : m ≤ q.length) (hu : HU q m j) :
    Calls Try.prog 39 #[.iface 49 (.pointer (some ⟨g, 0, none⟩)), .int .i64 (j : Int)] w fun e w' => e = .returned (.tuple #[]) ∧ ∃ q', HQ w' g v b q' ∧ Moved q q' m ∧ Hp q' m ∧ Tr (Fq g v b) w w' := by
  have m1 := mLess g
  have m2 := mSwap g
  have hb : m ≤ 65536 := by obtain ⟨f, hq, _⟩ := h; have := hq.few.1; omega
  have HH : Hid (HQ w g v b q ∧ HU q m j) := ⟨h, hu⟩
  have HM := Lib.hid hm
  clear h hu hm
  go_enter Try.func39, Try.ntmps39
  go_wp2_with fail
  go_loopw [1] (fun jv wr => ∃ (j' : Nat) (q' : List D), j' < m ∧ jv = .int .i64 (j' : Int) ∧ HQ wr g v b q' ∧ Moved q q' m ∧ HU q' m j' ∧ Tr (Fq g v b) w wr) (fun jv _ => (intOf jv).toNat)
  case atStart => exact ⟨j, q, hj, rfl, HH.out.1, Moved.refl _ _, HH.out.2, Tr.refl _ _⟩
  case round =>
    clear HH hj
    obtain ⟨k, q', hk, rfl, hq, hmv, hu, ht⟩ := hrel
    have HQ1 := Lib.hid hq
    have HMV := Lib.hid hmv
    have HU1 := Lib.hid hu
    have HT := Lib.hid ht
    have hlen : m ≤ q'.length := by rw [hmv.len]; exact HM.out
    have HLEN := Lib.hid hlen
    clear hq hmv hu ht hlen
    obtain ⟨i, hi⟩ : ∃ i, i = (k - 1) / 2 := ⟨_, rfl⟩
    have x3 : wrap64 (i : Int) = (i : Int) := wrap64_in (by omega) (by omega)
    by_cases h0 : k = 0
    · subst h0
      have hp : Hp q' m := HU1.out.done (fun h => absurd h (Nat.lt_irrefl 0))
      have HP := Lib.hid hp
      clear hp hi x3
      go_wp2_with fail
      go_end0
      exact ⟨rfl, q', HQ1.out, HMV.out, HP.out, HT.out⟩
    · have x1 : wrap64 ((k : Int) - 1) = (k : Int) - 1 := wrap64_in (by omega) (by omega)
      have x2 : ((k : Int) - 1).tdiv 2 = (i : Int) := by rw [hi, Int.tdiv_eq_ediv_of_nonneg (by omega)]; omega
      have hik : i < k := by omega
      have hne : ((i : Int) == (k : Int)) = false := by rw [beq_eq_false_iff_ne]; omega
      have HI := Lib.hid hi
      have hl : Hid (Calls Try.prog 77 #[.pointer (some ⟨g, 0, none⟩), .int .i64 (k : Int), .int .i64 (i : Int)] wr fun e w' => e = .returned (.bool (decide (lt (at_ q' k) (at_ q' i)))) ∧ Below wr.heap.size wr w') := by
        obtain ⟨f, hq, _⟩ := HQ1.out
        exact less_any g k i wr hq (by have := HLEN.out; omega) (by have := HLEN.out; omega)
      by_cases hc : lt (at_ q' k) (at_ q' i)
      · rw [decide_eq_true hc] at hl
        have HC := Lib.hid hc
        clear hi h0 hc
        go_wp2_with fail
        refine hl.out.mono ?_
        rintro e w1 ⟨rfl, hb1⟩
        have HS := Lib.hid (swap_any g i k w1 (HQ1.out.gr hb1) (by have := HLEN.out; omega) (by have := HLEN.out; omega))
        have HT1 : Hid (Tr (Fq g v b) w w1) := HT.out.trans (Tr.gr (K := Fq g v b) hb1) (fun _ h => .inl h)
        clear hb1 hl
        go_wp2_with fail
        refine HS.out.mono ?_
        rintro e w2 ⟨rfl, hq2, ht2⟩
        have HQ2 := Lib.hid hq2
        have HT2 : Hid (Tr (Fq g v b) w w2) := HT1.out.trans ht2 (fun _ h => .inl h)
        have HU2 : Hid (HU (swp q' i k) m i) := HU1.out.step HLEN.out (by omega) hk HI.out.symm HC.out
        have HMV2 := Lib.hid (HMV.out.swp HLEN.out (by omega) hk : Moved q (swp q' i k) m)
        clear hq2 ht2 HS
        go_wp2_with fail
        go_roundw
        case rel =>
          first
            | exact ⟨i, _, by omega, rfl, HQ2.out, HMV2.out, HU2.out, HT2.out⟩
            | ((repeat apply Exists.intro); exact ⟨⟨i, _, by omega, rfl, HQ2.out, HMV2.out, HU2.out, HT2.out⟩, rfl⟩)
        case measure => simp [intOf]; omega
      · rw [decide_eq_false hc] at hl
        have hp : Hp q' m := HU1.out.done (fun _ => by rw [← hi]; exact hc)
        have HP := Lib.hid hp
        clear hi h0 hc hp
        go_wp2_with fail
        refine hl.out.mono ?_
        rintro e w1 ⟨rfl, hb1⟩
        have HQ2 := Lib.hid (HQ1.out.gr hb1)
        have HT2 : Hid (Tr (Fq g v b) w w1) := HT.out.trans (Tr.gr (K := Fq g v b) hb1) (fun _ h => .inl h)
        clear hb1 hl
        go_wp2_with fail
        go_end0
        exact ⟨rfl, q', HQ2.out, HMV.out, HP.out, HT2.out⟩
/-- Where a step down has come to. -/
def Way (q q' : List D) (i0 k : Nat) : Prop := (k = i0 ∧ q' = q) ∨ (i0 < k ∧ Up q' k)
/-- What down tells, and leaves. -/
def Dn (q q' : List D) (m i0 : Nat) (r : Bool) : Prop := (r = true → Hp q' m) ∧ (r = false → q' = q ∧ HU q m i0)
theorem Dn.of {q q' : List D} {m i0 k : Nat} (hu : HE q' m k) (hw : Way q q' i0 k) (hl : Low q' m k) : Dn q q' m i0 (decide ((i0 : Int) < (k : Int))) := by
  rcases hw with ⟨rfl, rfl⟩ | ⟨h1, h2⟩
  · rw [decide_eq_false (by omega)]
    exact ⟨fun h => (by cases h), fun _ => ⟨rfl, hu.up hl⟩⟩
  · rw [decide_eq_true (by omega)]
    exact ⟨fun _ => hu.done h2 hl, fun h => (by cases h)⟩
def DownPost (g : Nat) (v : Value) (b : Nat) (q : List D) (m i0 : Nat) (w : World) (e : Ending) (w' : World) : Prop := ∃ r q', e = .returned (.bool r) ∧ HQ w' g v b q' ∧ Moved q q' m ∧ Dn q q' m i0 r ∧ Tr (Fq g v b) w w'
set_option maxRecDepth 20000 in
set_option maxHeartbeats 8000000 in
theorem down_any (g i0 m : Nat) {v : Value} {b : Nat} {q : List D} (w : World) (h : HQ w g v b q) (hj : i0 < m) (hm : m ≤ q.length) (hu : HE q m i0) :
    Calls Try.prog 38 #[.iface 49 (.pointer (some ⟨g, 0, none⟩)), .int .i64 (i0 : Int), .int .i64 (m : Int)] w (DownPost g v b q m i0 w) := by
  have m1 := mLess g
  have m2 := mSwap g
  have hb : m ≤ 65536 := by obtain ⟨f, hq, _⟩ := h; have := hq.few.1; omega
  have HH : Hid (HQ w g v b q ∧ HE q m i0) := ⟨h, hu⟩
  have HM := Lib.hid hm
  have HI0 := Lib.hid hj
  clear h hu hm
  go_enter Try.func38, Try.ntmps38
  go_wp2_with fail
  go_loopw [7] (fun jv wr => ∃ (k : Nat) (q' : List D), k < m ∧ jv = .int .i64 (k : Int) ∧ HQ wr g v b q' ∧ Moved q q' m ∧ HE q' m k ∧ Way q q' i0 k ∧ Tr (Fq g v b) w wr) (fun jv _ => m - (intOf jv).toNat)
  case atStart => exact ⟨i0, q, HI0.out, rfl, HH.out.1, Moved.refl _ _, HH.out.2, .inl ⟨rfl, rfl⟩, Tr.refl _ _⟩
  case round =>
    clear HH hj
    obtain ⟨k, q', hk, rfl, hq, hmv, hu, hw, ht⟩ := hrel
    have HQ1 := Lib.hid hq
    have HMV := Lib.hid hmv
    have HE1 := Lib.hid hu
    have HW := Lib.hid hw
    have HT := Lib.hid ht
    have hlen : m ≤ q'.length := by rw [hmv.len]; exact HM.out
    have HLEN := Lib.hid hlen
    obtain ⟨r, hr⟩ : ∃ r, r = decide ((i0 : Int) < (k : Int)) := ⟨_, rfl⟩
    have HR := Lib.hid hr
    have HFIN : Hid (Low q' m k → Dn q q' m i0 r) := fun hl => hr ▸ Dn.of hu hw hl
    clear hq hmv hu hw ht hlen
    have hl : Hid (∀ (i j : Nat) (I J : Int), I = i → J = j → i < m → j < m → ∀ w1, HQ w1 g v b q' → Calls Try.prog 77 #[.pointer (some ⟨g, 0, none⟩), .int .i64 I, .int .i64 J] w1 fun e w' => e = .returned (.bool (decide (lt (at_ q' i) (at_ q' j)))) ∧ Below w1.heap.size w1 w') := fun i j I J hI hJ hi hj w1 hq1 => by
      subst hI hJ
      obtain ⟨f, hq, _⟩ := hq1
      exact less_any g i j w1 hq (by have := HLEN.out; omega) (by have := HLEN.out; omega)
    have HLS := hl
    clear hl
    obtain ⟨j1, hj1⟩ : ∃ j1, j1 = 2 * k + 1 := ⟨_, rfl⟩
    obtain ⟨j2, hj2⟩ : ∃ j2, j2 = 2 * k + 2 := ⟨_, rfl⟩
    have HJ : Hid (j1 = 2 * k + 1 ∧ j2 = 2 * k + 2) := ⟨hj1, hj2⟩
    by_cases c1 : m ≤ j1
    · have HD := Lib.hid (HFIN.out fun c h0 hc hp => by omega)
      have z1 : (m : Int) ≤ 2 * (k : Int) + 1 := by omega
      clear hj1 hj2 hr c1
      go_wp2_with fail
      go_ret
      have hd := HD.out
      rw [HR.out] at hd
      exact ⟨_, q', rfl, HQ1.out, HMV.out, by simpa using hd, HT.out⟩
    · have c1' : j1 < m := by omega
      have z1 : ¬ ((m : Int) ≤ 2 * (k : Int) + 1) := by omega
      by_cases c2 : j2 < m
      · have z2 : 2 * (k : Int) + 1 + 1 < (m : Int) := by omega
        have hl := HLS.out j2 j1 (2 * (k : Int) + 1 + 1) (2 * (k : Int) + 1) (by omega) (by omega) c2 c1' wr HQ1.out
        by_cases c3 : lt (at_ q' j2) (at_ q' j1)
        · rw [decide_eq_true c3] at hl
          have HL1 := Lib.hid hl
          have HSM : Hid (∀ c, 0 < c → c < m → (c - 1) / 2 = k → le (at_ q' j2) (at_ q' c)) := fun c h0 hc hp => by
            have : c = j1 ∨ c = j2 := by omega
            rcases this with e | e
            · rw [e]; exact le_of_lt c3
            · rw [e]; exact le_refl _
          clear hl c3 hj1 hj2
          go_wp2_with fail
          refine HL1.out.mono ?_
          rintro e w1 ⟨rfl, hb1⟩
          have HQ1' := Lib.hid (HQ1.out.gr hb1)
          have HT1' : Hid (Tr (Fq g v b) w w1) := HT.out.trans (Tr.gr (K := Fq g v b) hb1) (fun _ h => .inl h)
          clear hb1 HL1
          by_cases c9 : lt (at_ q' j2) (at_ q' k)
          · have hl := HLS.out j2 k (2 * (k : Int) + 1 + 1) (k : Int) (by have := HJ.out; omega) rfl (by have := HJ.out; omega) hk w1 HQ1'.out
            rw [decide_eq_true c9] at hl
            have HL2 := Lib.hid hl
            have HSTEP := Lib.hid (HE1.out.step (j := j2) HLEN.out (by have := HJ.out; omega) (by have := HJ.out; omega) (by have := HJ.out; omega) c9 HSM.out)
            skip
            clear hl c9 
            go_wp2_with fail
            refine HL2.out.mono ?_
            rintro e w2 ⟨rfl, hb2⟩
            skip
            have HQ2 := Lib.hid (HQ1'.out.gr hb2)
            have HT2 : Hid (Tr (Fq g v b) w w2) := HT1'.out.trans (Tr.gr (K := Fq g v b) hb2) (fun _ h => .inl h)
            have HS := Lib.hid (swap_any g k j2 w2 HQ2.out (by have := HLEN.out; omega) (by have := HLEN.out; have := HJ.out; omega))
            rw [show ((j2 : Nat) : Int) = 2 * (k : Int) + 1 + 1 by have := HJ.out; omega] at HS
            clear hb2 HL2
            go_wp2_with fail
            refine HS.out.mono ?_
            rintro e w3 ⟨rfl, hq3, ht3⟩
            have HQ3 := Lib.hid hq3
            have HT3 : Hid (Tr (Fq g v b) w w3) := HT2.out.trans ht3 (fun _ h => .inl h)
            have HMV3 := Lib.hid (HMV.out.swp HLEN.out hk (by have := HJ.out; omega) : Moved q (swp q' k j2) m)
            have HW3 : Hid (Way q (swp q' k j2) i0 j2) := .inr ⟨by have := HJ.out; rcases HW.out with h | h <;> omega, HSTEP.out.2⟩
            have hjk : k < j2 ∧ j2 < m := by have := HJ.out; omega
            clear hq3 ht3 HS
            go_wp2_with fail
            go_roundw
            case rel =>
              first
                | exact ⟨j2, _, hjk.2, by have := HJ.out; go_num, HQ3.out, HMV3.out, HSTEP.out.1, HW3.out, HT3.out⟩
                | ((repeat apply Exists.intro); exact ⟨⟨j2, _, hjk.2, by have := HJ.out; go_num, HQ3.out, HMV3.out, HSTEP.out.1, HW3.out, HT3.out⟩, rfl⟩)
            case measure => simp [intOf]; omega
          · have hl := HLS.out j2 k (2 * (k : Int) + 1 + 1) (k : Int) (by have := HJ.out; omega) rfl (by have := HJ.out; omega) hk w1 HQ1'.out
            rw [decide_eq_false c9] at hl
            have HL2 := Lib.hid hl
            have HD := Lib.hid (HFIN.out fun c h0 hc hp => le_trans (show le (at_ q' k) (at_ q' j2) from c9) (HSM.out c h0 hc hp))
            skip
            clear hl c9 hr 
            go_wp2_with fail
            refine HL2.out.mono ?_
            rintro e w2 ⟨rfl, hb2⟩
            skip
            have HQ2 := Lib.hid (HQ1'.out.gr hb2)
            have HT2 : Hid (Tr (Fq g v b) w w2) := HT1'.out.trans (Tr.gr (K := Fq g v b) hb2) (fun _ h => .inl h)
            clear hb2 HL2
            go_wp2_with fail
            go_ret
            have hd := HD.out
            rw [HR.out] at hd
            exact ⟨_, q', rfl, HQ2.out, HMV.out, by simpa using hd, HT2.out⟩
        · rw [decide_eq_false c3] at hl
          have HL1 := Lib.hid hl
          have HSM : Hid (∀ c, 0 < c → c < m → (c - 1) / 2 = k → le (at_ q' j1) (at_ q' c)) := fun c h0 hc hp => by
            have : c = j1 ∨ c = j2 := by omega
            rcases this with e | e
            · rw [e]; exact le_refl _
            · rw [e]; exact c3
          clear hl c3 hj1 hj2
          go_wp2_with fail
          refine HL1.out.mono ?_
          rintro e w1 ⟨rfl, hb1⟩
          have HQ1' := Lib.hid (HQ1.out.gr hb1)
          have HT1' : Hid (Tr (Fq g v b) w w1) := HT.out.trans (Tr.gr (K := Fq g v b) hb1) (fun _ h => .inl h)
          clear hb1 HL1
          by_cases c9 : lt (at_ q' j1) (at_ q' k)
          · have hl := HLS.out j1 k (2 * (k : Int) + 1) (k : Int) (by have := HJ.out; omega) rfl (by have := HJ.out; omega) hk w1 HQ1'.out
            rw [decide_eq_true c9] at hl
            have HL2 := Lib.hid hl
            have HSTEP := Lib.hid (HE1.out.step (j := j1) HLEN.out (by have := HJ.out; omega) (by have := HJ.out; omega) (by have := HJ.out; omega) c9 HSM.out)
            skip
            clear hl c9 
            go_wp2_with fail
            refine HL2.out.mono ?_
            rintro e w2 ⟨rfl, hb2⟩
            skip
            have HQ2 := Lib.hid (HQ1'.out.gr hb2)
            have HT2 : Hid (Tr (Fq g v b) w w2) := HT1'.out.trans (Tr.gr (K := Fq g v b) hb2) (fun _ h => .inl h)
            have HS := Lib.hid (swap_any g k j1 w2 HQ2.out (by have := HLEN.out; omega) (by have := HLEN.out; have := HJ.out; omega))
            rw [show ((j1 : Nat) : Int) = 2 * (k : Int) + 1 by have := HJ.out; omega] at HS
            clear hb2 HL2
            go_wp2_with fail
            refine HS.out.mono ?_
            rintro e w3 ⟨rfl, hq3, ht3⟩
            have HQ3 := Lib.hid hq3
            have HT3 : Hid (Tr (Fq g v b) w w3) := HT2.out.trans ht3 (fun _ h => .inl h)
            have HMV3 := Lib.hid (HMV.out.swp HLEN.out hk (by have := HJ.out; omega) : Moved q (swp q' k j1) m)
            have HW3 : Hid (Way q (swp q' k j1) i0 j1) := .inr ⟨by have := HJ.out; rcases HW.out with h | h <;> omega, HSTEP.out.2⟩
            have hjk : k < j1 ∧ j1 < m := by have := HJ.out; omega
            clear hq3 ht3 HS
            go_wp2_with fail
            go_roundw
            case rel =>
              first
                | exact ⟨j1, _, hjk.2, by have := HJ.out; go_num, HQ3.out, HMV3.out, HSTEP.out.1, HW3.out, HT3.out⟩
                | ((repeat apply Exists.intro); exact ⟨⟨j1, _, hjk.2, by have := HJ.out; go_num, HQ3.out, HMV3.out, HSTEP.out.1, HW3.out, HT3.out⟩, rfl⟩)
            case measure => simp [intOf]; omega
          · have hl := HLS.out j1 k (2 * (k : Int) + 1) (k : Int) (by have := HJ.out; omega) rfl (by have := HJ.out; omega) hk w1 HQ1'.out
            rw [decide_eq_false c9] at hl
            have HL2 := Lib.hid hl
            have HD := Lib.hid (HFIN.out fun c h0 hc hp => le_trans (show le (at_ q' k) (at_ q' j1) from c9) (HSM.out c h0 hc hp))
            skip
            clear hl c9 hr 
            go_wp2_with fail
            refine HL2.out.mono ?_
            rintro e w2 ⟨rfl, hb2⟩
            skip
            have HQ2 := Lib.hid (HQ1'.out.gr hb2)
            have HT2 : Hid (Tr (Fq g v b) w w2) := HT1'.out.trans (Tr.gr (K := Fq g v b) hb2) (fun _ h => .inl h)
            clear hb2 HL2
            go_wp2_with fail
            go_ret
            have hd := HD.out
            rw [HR.out] at hd
            exact ⟨_, q', rfl, HQ2.out, HMV.out, by simpa using hd, HT2.out⟩
      · have z2 : ¬ (2 * (k : Int) + 1 + 1 < (m : Int)) := by omega
        have HSM : Hid (∀ c, 0 < c → c < m → (c - 1) / 2 = k → le (at_ q' j1) (at_ q' c)) := fun c h0 hc hp => by
          have e : c = j1 := by omega
          rw [e]; exact le_refl _
        by_cases c9 : lt (at_ q' j1) (at_ q' k)
        · have hl := HLS.out j1 k (2 * (k : Int) + 1) (k : Int) (by have := HJ.out; omega) rfl (by have := HJ.out; omega) hk wr HQ1.out
          rw [decide_eq_true c9] at hl
          have HL2 := Lib.hid hl
          have HSTEP := Lib.hid (HE1.out.step (j := j1) HLEN.out (by have := HJ.out; omega) (by have := HJ.out; omega) (by have := HJ.out; omega) c9 HSM.out)
          skip
          clear hl c9 hj1 hj2
          go_wp2_with fail
          refine HL2.out.mono ?_
          rintro e w2 ⟨rfl, hb2⟩
          skip
          have HQ2 := Lib.hid (HQ1.out.gr hb2)
          have HT2 : Hid (Tr (Fq g v b) w w2) := HT.out.trans (Tr.gr (K := Fq g v b) hb2) (fun _ h => .inl h)
          have HS := Lib.hid (swap_any g k j1 w2 HQ2.out (by have := HLEN.out; omega) (by have := HLEN.out; have := HJ.out; omega))
          rw [show ((j1 : Nat) : Int) = 2 * (k : Int) + 1 by have := HJ.out; omega] at HS
          clear hb2 HL2
          go_wp2_with fail
          refine HS.out.mono ?_
          rintro e w3 ⟨rfl, hq3, ht3⟩
          have HQ3 := Lib.hid hq3
          have HT3 : Hid (Tr (Fq g v b) w w3) := HT2.out.trans ht3 (fun _ h => .inl h)
          have HMV3 := Lib.hid (HMV.out.swp HLEN.out hk (by have := HJ.out; omega) : Moved q (swp q' k j1) m)
          have HW3 : Hid (Way q (swp q' k j1) i0 j1) := .inr ⟨by have := HJ.out; rcases HW.out with h | h <;> omega, HSTEP.out.2⟩
          have hjk : k < j1 ∧ j1 < m := by have := HJ.out; omega
          clear hq3 ht3 HS
          go_wp2_with fail
          go_roundw
          case rel =>
            first
              | exact ⟨j1, _, hjk.2, by have := HJ.out; go_num, HQ3.out, HMV3.out, HSTEP.out.1, HW3.out, HT3.out⟩
              | ((repeat apply Exists.intro); exact ⟨⟨j1, _, hjk.2, by have := HJ.out; go_num, HQ3.out, HMV3.out, HSTEP.out.1, HW3.out, HT3.out⟩, rfl⟩)
          case measure => simp [intOf]; omega
        · have hl := HLS.out j1 k (2 * (k : Int) + 1) (k : Int) (by have := HJ.out; omega) rfl (by have := HJ.out; omega) hk wr HQ1.out
          rw [decide_eq_false c9] at hl
          have HL2 := Lib.hid hl
          have HD := Lib.hid (HFIN.out fun c h0 hc hp => le_trans (show le (at_ q' k) (at_ q' j1) from c9) (HSM.out c h0 hc hp))
          skip
          clear hl c9 hr hj1 hj2
          go_wp2_with fail
          refine HL2.out.mono ?_
          rintro e w2 ⟨rfl, hb2⟩
          skip
          have HQ2 := Lib.hid (HQ1.out.gr hb2)
          have HT2 : Hid (Tr (Fq g v b) w w2) := HT.out.trans (Tr.gr (K := Fq g v b) hb2) (fun _ h => .inl h)
          clear hb2 HL2
          go_wp2_with fail
          go_ret
          have hd := HD.out
          rw [HR.out] at hd
          exact ⟨_, q', rfl, HQ2.out, HMV.out, by simpa using hd, HT2.out⟩
end Go.Proofs.Ytmcifmgfgdahnaa.Tm
