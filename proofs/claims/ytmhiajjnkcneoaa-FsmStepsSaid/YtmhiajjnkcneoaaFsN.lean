/-
  Names: ours, the document's; is the timer needed; the state of a name.
-/
import Derived.Test.YtmhiajjnkcneoaaFsJ
namespace Go.Proofs.Ytmhiajjnkcneoaa.Fs
open Go.RowKit
open Go.Proofs.Ytmhiajjnkcneoaa.Id (Tr Tr.refl Tr.gr Tr.only)
set_option linter.unusedVariables false
set_option linter.unusedSimpArgs false

def timedV (s : Int) : Value := .bool (timed s)
theorem Timed_any (s : Int) (w : World) : Calls Try.prog 19 #[.int .i64 s] w fun e w' => e = .returned (.bool (timed s)) ∧ w' = w := by
  unfold timed
  by_cases h0 : 4 ≤ s
  · by_cases h1 : s ≤ 8
    · rw [decide_eq_true ⟨h0, h1⟩]
      go_enter Try.func19, Try.ntmps19
      go_wp2
      go_ret
      exact ⟨rfl, rfl⟩
    · rw [decide_eq_false (fun h => h1 h.2)]
      go_enter Try.func19, Try.ntmps19
      go_wp2
      go_ret
      exact ⟨rfl, rfl⟩
  · rw [decide_eq_false (fun h => h0 h.1)]
    go_enter Try.func19, Try.ntmps19
    go_wp2
    go_ret
    exact ⟨rfl, rfl⟩
theorem rTimed_any (s : Int) (w : World) : Calls Try.prog 20 #[.int .i64 s] w fun e w' => e = .returned (.bool (timed s)) ∧ w' = w := by
  unfold timed
  by_cases h0 : 4 ≤ s
  · by_cases h1 : s ≤ 8
    · rw [decide_eq_true ⟨h0, h1⟩]
      go_enter Try.func20, Try.ntmps20
      go_wp2
      go_ret
      exact ⟨rfl, rfl⟩
    · rw [decide_eq_false (fun h => h1 h.2)]
      go_enter Try.func20, Try.ntmps20
      go_wp2
      go_ret
      exact ⟨rfl, rfl⟩
  · rw [decide_eq_false (fun h => h0 h.1)]
    go_enter Try.func20, Try.ntmps20
    go_wp2
    go_ret
    exact ⟨rfl, rfl⟩
set_option maxHeartbeats 4000000 in
theorem Name_any (x : Int) (w : World) : Calls Try.prog 21 #[.int .i64 x] w fun e w' => e = .returned (tx (nm names x)) ∧ w' = w := by
  by_cases h : x = 0 ∨ x = 1 ∨ x = 2 ∨ x = 3 ∨ x = 4 ∨ x = 5 ∨ x = 6 ∨ x = 7 ∨ x = 8 ∨ x = 9
  · obtain rfl | rfl | rfl | rfl | rfl | rfl | rfl | rfl | rfl | rfl := h
    · go_enter Try.func21, Try.ntmps21
      go_wp2
      go_ret
      exact ⟨rfl, rfl⟩
    · go_enter Try.func21, Try.ntmps21
      go_wp2
      go_ret
      exact ⟨rfl, rfl⟩
    · go_enter Try.func21, Try.ntmps21
      go_wp2
      go_ret
      exact ⟨rfl, rfl⟩
    · go_enter Try.func21, Try.ntmps21
      go_wp2
      go_ret
      exact ⟨rfl, rfl⟩
    · go_enter Try.func21, Try.ntmps21
      go_wp2
      go_ret
      exact ⟨rfl, rfl⟩
    · go_enter Try.func21, Try.ntmps21
      go_wp2
      go_ret
      exact ⟨rfl, rfl⟩
    · go_enter Try.func21, Try.ntmps21
      go_wp2
      go_ret
      exact ⟨rfl, rfl⟩
    · go_enter Try.func21, Try.ntmps21
      go_wp2
      go_ret
      exact ⟨rfl, rfl⟩
    · go_enter Try.func21, Try.ntmps21
      go_wp2
      go_ret
      exact ⟨rfl, rfl⟩
    · go_enter Try.func21, Try.ntmps21
      go_wp2
      go_ret
      exact ⟨rfl, rfl⟩
  · have hn : nm names x = [] := by
      unfold nm
      split
      · rename_i hx
        have h2 : x < 10 := hx.2
        omega
      · rfl
    rw [hn]
    clear hn
    have h0 : ¬ x = 0 := by omega
    have h1 : ¬ x = 1 := by omega
    have h2 : ¬ x = 2 := by omega
    have h3 : ¬ x = 3 := by omega
    have h4 : ¬ x = 4 := by omega
    have h5 : ¬ x = 5 := by omega
    have h6 : ¬ x = 6 := by omega
    have h7 : ¬ x = 7 := by omega
    have h8 : ¬ x = 8 := by omega
    have h9 : ¬ x = 9 := by omega
    clear h
    go_enter Try.func21, Try.ntmps21
    go_wp2
    go_ret
    exact ⟨rfl, rfl⟩
set_option maxHeartbeats 2000000 in
theorem rName_any (x : Int) (w : World) : Calls Try.prog 22 #[.int .i64 x] w fun e w' => e = .returned (tx (nm names x)) ∧ Below w.heap.size w w' := by
  by_cases h0 : x < 0
  · have hn : nm names x = [] := by unfold nm; rw [if_neg (by omega)]
    rw [hn]
    clear hn
    go_enter Try.func22, Try.ntmps22
    go_wp2
    go_ret
    exact ⟨rfl, Below.refl _ _⟩
  · by_cases h1 : 9 < x
    · have hn : nm names x = [] := by unfold nm; rw [if_neg (by show ¬ (_ ∧ x < 10); omega)]
      rw [hn]
      clear hn
      go_enter Try.func22, Try.ntmps22
      go_wp2
      go_ret
      exact ⟨rfl, Below.refl _ _⟩
    · obtain ⟨k, rfl⟩ : ∃ k : Nat, x = (k : Int) := ⟨x.toNat, by omega⟩
      have hk : k < 10 := by omega
      have hn : nm names (k : Int) = names.getD k [] := by unfold nm; rw [if_pos (by show (_ ∧ (k : Int) < 10); omega)]; rfl
      rw [hn]
      obtain ⟨V, hV⟩ : ∃ V, V = tx (names.getD k []) := ⟨_, rfl⟩
      rw [← hV]
      have HV := Lib.hid hV
      have HS := Lib.hid (states_any w)
      clear hn h0 h1 hV
      go_enter Try.func22, Try.ntmps22
      go_wp2_with fail
      refine HS.out.mono ?_
      rintro e w1 ⟨rfl, hb, hc⟩
      have d0 := hc k hk
      rw [← HV.out] at d0
      have HB := Lib.hid hb
      clear hb hc HS
      go_wp2_with fail
      go_ret
      exact ⟨rfl, HB.out⟩
set_option maxHeartbeats 4000000 in
theorem EventName_any (x : Int) (w : World) : Calls Try.prog 23 #[.int .i64 x] w fun e w' => e = .returned (tx (nm evs x)) ∧ w' = w := by
  by_cases h : x = 1 ∨ x = 2 ∨ x = 3 ∨ x = 4 ∨ x = 5 ∨ x = 6 ∨ x = 7 ∨ x = 8 ∨ x = 9 ∨ x = 10 ∨ x = 11 ∨ x = 12 ∨ x = 13 ∨ x = 14 ∨ x = 15 ∨ x = 16
  · obtain rfl | rfl | rfl | rfl | rfl | rfl | rfl | rfl | rfl | rfl | rfl | rfl | rfl | rfl | rfl | rfl := h
    · go_enter Try.func23, Try.ntmps23
      go_wp2
      go_ret
      exact ⟨rfl, rfl⟩
    · go_enter Try.func23, Try.ntmps23
      go_wp2
      go_ret
      exact ⟨rfl, rfl⟩
    · go_enter Try.func23, Try.ntmps23
      go_wp2
      go_ret
      exact ⟨rfl, rfl⟩
    · go_enter Try.func23, Try.ntmps23
      go_wp2
      go_ret
      exact ⟨rfl, rfl⟩
    · go_enter Try.func23, Try.ntmps23
      go_wp2
      go_ret
      exact ⟨rfl, rfl⟩
    · go_enter Try.func23, Try.ntmps23
      go_wp2
      go_ret
      exact ⟨rfl, rfl⟩
    · go_enter Try.func23, Try.ntmps23
      go_wp2
      go_ret
      exact ⟨rfl, rfl⟩
    · go_enter Try.func23, Try.ntmps23
      go_wp2
      go_ret
      exact ⟨rfl, rfl⟩
    · go_enter Try.func23, Try.ntmps23
      go_wp2
      go_ret
      exact ⟨rfl, rfl⟩
    · go_enter Try.func23, Try.ntmps23
      go_wp2
      go_ret
      exact ⟨rfl, rfl⟩
    · go_enter Try.func23, Try.ntmps23
      go_wp2
      go_ret
      exact ⟨rfl, rfl⟩
    · go_enter Try.func23, Try.ntmps23
      go_wp2
      go_ret
      exact ⟨rfl, rfl⟩
    · go_enter Try.func23, Try.ntmps23
      go_wp2
      go_ret
      exact ⟨rfl, rfl⟩
    · go_enter Try.func23, Try.ntmps23
      go_wp2
      go_ret
      exact ⟨rfl, rfl⟩
    · go_enter Try.func23, Try.ntmps23
      go_wp2
      go_ret
      exact ⟨rfl, rfl⟩
    · go_enter Try.func23, Try.ntmps23
      go_wp2
      go_ret
      exact ⟨rfl, rfl⟩
  · have hn : nm evs x = [] := by
      unfold nm
      split
      · rename_i hx
        have h2 : x < 17 := hx.2
        have h3 : x = 0 := by omega
        subst h3
        rfl
      · rfl
    rw [hn]
    clear hn
    have h1 : ¬ x = 1 := by omega
    have h2 : ¬ x = 2 := by omega
    have h3 : ¬ x = 3 := by omega
    have h4 : ¬ x = 4 := by omega
    have h5 : ¬ x = 5 := by omega
    have h6 : ¬ x = 6 := by omega
    have h7 : ¬ x = 7 := by omega
    have h8 : ¬ x = 8 := by omega
    have h9 : ¬ x = 9 := by omega
    have h10 : ¬ x = 10 := by omega
    have h11 : ¬ x = 11 := by omega
    have h12 : ¬ x = 12 := by omega
    have h13 : ¬ x = 13 := by omega
    have h14 : ¬ x = 14 := by omega
    have h15 : ¬ x = 15 := by omega
    have h16 : ¬ x = 16 := by omega
    clear h
    go_enter Try.func23, Try.ntmps23
    go_wp2
    go_ret
    exact ⟨rfl, rfl⟩
set_option maxHeartbeats 2000000 in
theorem rEventName_any (x : Int) (w : World) : Calls Try.prog 24 #[.int .i64 x] w fun e w' => e = .returned (tx (nm evs x)) ∧ Below w.heap.size w w' := by
  by_cases h0 : x < 0
  · have hn : nm evs x = [] := by unfold nm; rw [if_neg (by omega)]
    rw [hn]
    clear hn
    go_enter Try.func24, Try.ntmps24
    go_wp2
    go_ret
    exact ⟨rfl, Below.refl _ _⟩
  · by_cases h1 : 16 < x
    · have hn : nm evs x = [] := by unfold nm; rw [if_neg (by show ¬ (_ ∧ x < 17); omega)]
      rw [hn]
      clear hn
      go_enter Try.func24, Try.ntmps24
      go_wp2
      go_ret
      exact ⟨rfl, Below.refl _ _⟩
    · obtain ⟨k, rfl⟩ : ∃ k : Nat, x = (k : Int) := ⟨x.toNat, by omega⟩
      have hk : k < 17 := by omega
      have hn : nm evs (k : Int) = evs.getD k [] := by unfold nm; rw [if_pos (by show (_ ∧ (k : Int) < 17); omega)]; rfl
      rw [hn]
      obtain ⟨V, hV⟩ : ∃ V, V = tx (evs.getD k []) := ⟨_, rfl⟩
      rw [← hV]
      have HV := Lib.hid hV
      have HS := Lib.hid (events_any w)
      clear hn h0 h1 hV
      go_enter Try.func24, Try.ntmps24
      go_wp2_with fail
      refine HS.out.mono ?_
      rintro e w1 ⟨rfl, hb, hc⟩
      have d0 := hc k hk
      rw [← HV.out] at d0
      have HB := Lib.hid hb
      clear hb hc HS
      go_wp2_with fail
      go_ret
      exact ⟨rfl, HB.out⟩
set_option maxHeartbeats 4000000 in
theorem ActionName_any (x : Int) (w : World) : Calls Try.prog 25 #[.int .i64 x] w fun e w' => e = .returned (tx (nm acs x)) ∧ w' = w := by
  by_cases h : x = 1 ∨ x = 2 ∨ x = 3 ∨ x = 4 ∨ x = 5 ∨ x = 6 ∨ x = 7 ∨ x = 8 ∨ x = 9 ∨ x = 10 ∨ x = 11 ∨ x = 12 ∨ x = 13
  · obtain rfl | rfl | rfl | rfl | rfl | rfl | rfl | rfl | rfl | rfl | rfl | rfl | rfl := h
    · go_enter Try.func25, Try.ntmps25
      go_wp2
      go_ret
      exact ⟨rfl, rfl⟩
    · go_enter Try.func25, Try.ntmps25
      go_wp2
      go_ret
      exact ⟨rfl, rfl⟩
    · go_enter Try.func25, Try.ntmps25
      go_wp2
      go_ret
      exact ⟨rfl, rfl⟩
    · go_enter Try.func25, Try.ntmps25
      go_wp2
      go_ret
      exact ⟨rfl, rfl⟩
    · go_enter Try.func25, Try.ntmps25
      go_wp2
      go_ret
      exact ⟨rfl, rfl⟩
    · go_enter Try.func25, Try.ntmps25
      go_wp2
      go_ret
      exact ⟨rfl, rfl⟩
    · go_enter Try.func25, Try.ntmps25
      go_wp2
      go_ret
      exact ⟨rfl, rfl⟩
    · go_enter Try.func25, Try.ntmps25
      go_wp2
      go_ret
      exact ⟨rfl, rfl⟩
    · go_enter Try.func25, Try.ntmps25
      go_wp2
      go_ret
      exact ⟨rfl, rfl⟩
    · go_enter Try.func25, Try.ntmps25
      go_wp2
      go_ret
      exact ⟨rfl, rfl⟩
    · go_enter Try.func25, Try.ntmps25
      go_wp2
      go_ret
      exact ⟨rfl, rfl⟩
    · go_enter Try.func25, Try.ntmps25
      go_wp2
      go_ret
      exact ⟨rfl, rfl⟩
    · go_enter Try.func25, Try.ntmps25
      go_wp2
      go_ret
      exact ⟨rfl, rfl⟩
  · have hn : nm acs x = [] := by
      unfold nm
      split
      · rename_i hx
        have h2 : x < 14 := hx.2
        have h3 : x = 0 := by omega
        subst h3
        rfl
      · rfl
    rw [hn]
    clear hn
    have h1 : ¬ x = 1 := by omega
    have h2 : ¬ x = 2 := by omega
    have h3 : ¬ x = 3 := by omega
    have h4 : ¬ x = 4 := by omega
    have h5 : ¬ x = 5 := by omega
    have h6 : ¬ x = 6 := by omega
    have h7 : ¬ x = 7 := by omega
    have h8 : ¬ x = 8 := by omega
    have h9 : ¬ x = 9 := by omega
    have h10 : ¬ x = 10 := by omega
    have h11 : ¬ x = 11 := by omega
    have h12 : ¬ x = 12 := by omega
    have h13 : ¬ x = 13 := by omega
    clear h
    go_enter Try.func25, Try.ntmps25
    go_wp2
    go_ret
    exact ⟨rfl, rfl⟩
set_option maxHeartbeats 2000000 in
theorem rActionName_any (x : Int) (w : World) : Calls Try.prog 26 #[.int .i64 x] w fun e w' => e = .returned (tx (nm acs x)) ∧ Below w.heap.size w w' := by
  by_cases h0 : x < 0
  · have hn : nm acs x = [] := by unfold nm; rw [if_neg (by omega)]
    rw [hn]
    clear hn
    go_enter Try.func26, Try.ntmps26
    go_wp2
    go_ret
    exact ⟨rfl, Below.refl _ _⟩
  · by_cases h1 : 13 < x
    · have hn : nm acs x = [] := by unfold nm; rw [if_neg (by show ¬ (_ ∧ x < 14); omega)]
      rw [hn]
      clear hn
      go_enter Try.func26, Try.ntmps26
      go_wp2
      go_ret
      exact ⟨rfl, Below.refl _ _⟩
    · obtain ⟨k, rfl⟩ : ∃ k : Nat, x = (k : Int) := ⟨x.toNat, by omega⟩
      have hk : k < 14 := by omega
      have hn : nm acs (k : Int) = acs.getD k [] := by unfold nm; rw [if_pos (by show (_ ∧ (k : Int) < 14); omega)]; rfl
      rw [hn]
      obtain ⟨V, hV⟩ : ∃ V, V = tx (acs.getD k []) := ⟨_, rfl⟩
      rw [← hV]
      have HV := Lib.hid hV
      have HS := Lib.hid (actions_any w)
      clear hn h0 h1 hV
      go_enter Try.func26, Try.ntmps26
      go_wp2_with fail
      refine HS.out.mono ?_
      rintro e w1 ⟨rfl, hb, hc⟩
      have d0 := hc k hk
      rw [← HV.out] at d0
      have HB := Lib.hid hb
      clear hb hc HS
      go_wp2_with fail
      go_ret
      exact ⟨rfl, HB.out⟩
theorem nm_get (k : Nat) (h : k < 10) : nm names (k : Int) = names.getD k [] := by unfold nm; rw [if_pos (by show (_ ∧ (k : Int) < 10); omega)]; rfl
theorem prs_some {t : List UInt8} {i : Nat} (h : look names t 10 = some i) : prs t = ((i : Int), true) := by unfold prs; rw [h]
theorem prs_none {t : List UInt8} (h : look names t 10 = none) : prs t = (0, false) := by unfold prs; rw [h]
theorem ret_ib {a b : Int} {c d : Bool} (h : (a, c) = (b, d)) : Ending.returned (.tuple #[.int .i64 b, .bool d]) = Ending.returned (.tuple #[.int .i64 a, .bool c]) := by cases h; rfl
set_option maxHeartbeats 2000000 in
set_option maxRecDepth 20000 in
theorem Parse_any (t : ByteArray) (w : World) : Calls Try.prog 17 #[.string t] w fun e w' => e = .returned (.tuple #[.int .i64 (prs (bl t)).1, .bool (prs (bl t)).2]) ∧ w' = w := by
  go_enter Try.func17, Try.ntmps17
  go_wp2_with fail
  go_loopw [4] (fun iv wr => ∃ i : Nat, i ≤ 10 ∧ iv = .int .i64 (i : Int) ∧ look names (bl t) i = none ∧ wr = w) (fun iv _ => 10 - (intOf iv).toNat)
  case atStart => exact ⟨0, by omega, rfl, rfl, rfl⟩
  case round =>
    obtain ⟨i, hin, rfl, hno, rfl⟩ := hrel
    have HNO := Lib.hid hno
    clear hno
    by_cases hlt : i < 10
    · have hi9 : (i : Int) ≤ 9 := by omega
      obtain ⟨s, hs1, hs2⟩ := tx_of (names.getD i [])
      have HN : Hid (Calls Try.prog 21 #[.int .i64 (i : Int)] wr fun e w' => e = .returned (.string s) ∧ w' = wr) := by
        have := Name_any (i : Int) wr
        rwa [nm_get i hlt, hs1] at this
      have HT : Hid (names.getD i [] = bl s) := hs2.symm
      clear hs1 hs2
      by_cases hst : s = t
      · subst hst
        have HR : Hid (prs (bl s) = ((i : Int), true)) := prs_some (look_yes HNO.out HT.out hlt)
        go_wp2_with fail
        refine HN.out.mono ?_
        rintro e w' ⟨rfl, rfl⟩
        go_wp2_with fail
        go_ret2
        exact ⟨ret_ib HR.out, rfl⟩
      · have hne : (s.toList == t.toList) = false := text_ne hst
        have HR : Hid (look names (bl t) (i + 1) = none) := look_no HNO.out (by rw [HT.out]; exact fun h => hst (bl_inj h))
        have hle : i + 1 ≤ 10 := by omega
        go_wp2_with fail
        refine HN.out.mono ?_
        rintro e w' ⟨rfl, rfl⟩
        go_wp2_with fail
        go_roundw
        case rel =>
          first
            | exact ⟨i + 1, hle, by go_num, HR.out, by first | rfl | trivial⟩
            | ((repeat apply Exists.intro); exact ⟨⟨i + 1, hle, by go_num, HR.out, by first | rfl | trivial⟩, rfl⟩)
        case measure => simp [intOf]; omega
    · have hi9 : ¬ (i : Int) ≤ 9 := by omega
      have HR : Hid (prs (bl t) = (0, false)) := prs_none (by have := HNO.out; rwa [show i = 10 by omega] at this)
      go_wp2_with fail
      go_ret2
      exact ⟨ret_ib HR.out, rfl⟩
set_option maxHeartbeats 2000000 in
set_option maxRecDepth 20000 in
theorem rParse_any (t : ByteArray) (w : World) : Calls Try.prog 18 #[.string t] w fun e w' => e = .returned (.tuple #[.int .i64 (prs (bl t)).1, .bool (prs (bl t)).2]) ∧ Below w.heap.size w w' := by
  have HA := Lib.hid (states_any w)
  go_enter Try.func18, Try.ntmps18
  go_wp2_with fail
  refine HA.out.mono ?_
  rintro e w1 ⟨rfl, hb, hc⟩
  have HB := Lib.hid hb
  have HC := Lib.hid hc
  clear hb hc HA
  go_wp2_with fail
  go_loopw [5] (fun iv wr => ∃ i : Nat, i ≤ 10 ∧ iv = .int .i64 (i : Int) ∧ look names (bl t) i = none ∧ wr = w1) (fun iv _ => 10 - (intOf iv).toNat)
  case atStart => exact ⟨0, by omega, rfl, rfl, rfl⟩
  case round =>
    obtain ⟨i, hin, rfl, hno, rfl⟩ := hrel
    have HNO := Lib.hid hno
    clear hno
    by_cases hlt : i < 10
    · have d0 := HC.out i hlt
      obtain ⟨s, hs1, hs2⟩ := tx_of (names.getD i [])
      rw [hs1] at d0
      have HT : Hid (names.getD i [] = bl s) := hs2.symm
      clear hs1 hs2
      by_cases hst : s = t
      · subst hst
        have HR : Hid (prs (bl s) = ((i : Int), true)) := prs_some (look_yes HNO.out HT.out hlt)
        go_wp2_with fail
        go_ret2
        exact ⟨ret_ib HR.out, HB.out⟩
      · have hne : (s.toList == t.toList) = false := text_ne hst
        have HR : Hid (look names (bl t) (i + 1) = none) := look_no HNO.out (by rw [HT.out]; exact fun h => hst (bl_inj h))
        have hle : i + 1 ≤ 10 := by omega
        go_wp2_with fail
        go_roundw
        case rel =>
          first
            | exact ⟨i + 1, hle, by go_num, HR.out, by first | rfl | trivial⟩
            | ((repeat apply Exists.intro); exact ⟨⟨i + 1, hle, by go_num, HR.out, by first | rfl | trivial⟩, rfl⟩)
        case measure => simp [intOf]; omega
    · have HR : Hid (prs (bl t) = (0, false)) := prs_none (by have := HNO.out; rwa [show i = 10 by omega] at this)
      go_wp2_with fail
      go_ret2
      exact ⟨ret_ib HR.out, HB.out⟩
end Go.Proofs.Ytmhiajjnkcneoaa.Fs
