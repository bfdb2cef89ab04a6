import Derived.Test.YtjpihjonkdgnhaaRows
import Derived.Test.YtjpihjonkdgnhaaPlain
import Derived.ProofKit
import Derived.BigQuiet
import Derived.Deep.QuietTactic
import Derived.Test.YtjpihjonkdgnhaaGrow
namespace Go.Proofs.Ytjpihjonkdgnhaa
open Go.RowKit
set_option linter.unusedVariables false
set_option linter.unusedSimpArgs false

theorem info5 : (Try.prog.info? 5).map (fun i => (i.zero, i.size, i.bytes)) = some (some (.int .u8 0), 1, 1) := by kernel_rfl

theorem digit_yes (c d : Nat) (w : World) (h : digV c = some d) :
    Calls Try.prog 31 #[.int .u8 c] w fun e w' => e = .returned (.tuple #[.int .u8 d, .bool true]) ∧ w = w' := by
  rcases digV_some h with ⟨h1, h2, h3⟩ | ⟨h1, h2, h3⟩
  · have hd : ((d : Nat) : Int) = (c : Int) - 48 := by omega
    rw [hd]
    clear hd h h3
    go_enter Try.func31, Try.ntmps31
    go_wp2
    go_ret2
    exact ⟨rfl, rfl⟩
  · have hd : ((d : Nat) : Int) = (c : Int) - 97 + 10 := by omega
    rw [hd]
    clear hd h h3
    go_enter Try.func31, Try.ntmps31
    go_wp2
    go_ret2
    exact ⟨rfl, rfl⟩

theorem digit_no (c : Nat) (w : World) (h : digV c = none) :
    Calls Try.prog 31 #[.int .u8 c] w fun e w' => e = .returned (.tuple #[.int .u8 0, .bool false]) ∧ w = w' := by
  rcases digV_none h with h1 | ⟨h1, h2⟩ | h1
  all_goals
    clear h
    go_enter Try.func31, Try.ntmps31
    go_wp2
    go_ret2
    exact ⟨rfl, rfl⟩

theorem pair_yes (x y a b : Nat) (w : World) (h : digV x = some a) (k : digV y = some b) :
    Calls Try.prog 28 #[.int .u8 x, .int .u8 y] w fun e w' => e = .returned (.tuple #[.int .u8 (a * 16 + b : Nat), .bool true]) ∧ w = w' := by
  have ha := digV_lt h
  have hb := digV_lt k
  have H := Lib.hid h
  have K := Lib.hid k
  clear h k
  have e := u8_or16 a b ha hb
  go_enter Try.func28, Try.ntmps28
  go_wp2_with fail
  refine (digit_yes _ _ _ H.out).mono ?_
  rintro e w' ⟨rfl, rfl⟩
  go_wp2_with fail
  refine (digit_yes _ _ _ K.out).mono ?_
  rintro e w' ⟨rfl, rfl⟩
  go_wp2
  go_ret2
  exact ⟨rfl, rfl⟩

theorem pair_no (x y : Nat) (w : World) (h : digV x = none ∨ digV y = none) :
    Calls Try.prog 28 #[.int .u8 x, .int .u8 y] w fun e w' => e = .returned (.tuple #[.int .u8 0, .bool false]) ∧ w = w' := by
  cases hx : digV x with
  | none =>
    have H := Lib.hid hx
    cases hy : digV y with
    | none =>
      have K := Lib.hid hy
      clear h hx hy
      go_enter Try.func28, Try.ntmps28
      go_wp2_with fail
      refine (digit_no _ _ H.out).mono ?_
      rintro e w' ⟨rfl, rfl⟩
      go_wp2_with fail
      refine (digit_no _ _ K.out).mono ?_
      rintro e w' ⟨rfl, rfl⟩
      go_wp2
      go_ret2
      exact ⟨rfl, rfl⟩
    | some b =>
      have K := Lib.hid hy
      clear h hx hy
      go_enter Try.func28, Try.ntmps28
      go_wp2_with fail
      refine (digit_no _ _ H.out).mono ?_
      rintro e w' ⟨rfl, rfl⟩
      go_wp2_with fail
      refine (digit_yes _ _ _ K.out).mono ?_
      rintro e w' ⟨rfl, rfl⟩
      go_wp2
      go_ret2
      exact ⟨rfl, rfl⟩
  | some a =>
    have H := Lib.hid hx
    cases hy : digV y with
    | none =>
      have K := Lib.hid hy
      clear h hx hy
      go_enter Try.func28, Try.ntmps28
      go_wp2_with fail
      refine (digit_yes _ _ _ H.out).mono ?_
      rintro e w' ⟨rfl, rfl⟩
      go_wp2_with fail
      refine (digit_no _ _ K.out).mono ?_
      rintro e w' ⟨rfl, rfl⟩
      go_wp2
      go_ret2
      exact ⟨rfl, rfl⟩
    | some b => rw [hx, hy] at h; rcases h with h | h <;> cases h

theorem digits_at (kk : IntKind) (i : Int) (k : Nat) (hi : i = (k : Int)) (hk : k < 16) (w : World) : (Instr.index 9 (.string ⟨#[48, 49, 50, 51, 52, 53, 54, 55, 56, 57, 97, 98, 99, 100, 101, 102]⟩) (.int kk i)).run Try.prog w = .ok (.int .u8 (hexN k : Nat)) w := by
  subst hi
  have hk' : k = 0 ∨ k = 1 ∨ k = 2 ∨ k = 3 ∨ k = 4 ∨ k = 5 ∨ k = 6 ∨ k = 7 ∨ k = 8 ∨ k = 9 ∨ k = 10 ∨ k = 11 ∨ k = 12 ∨ k = 13 ∨ k = 14 ∨ k = 15 := by omega
  rcases hk' with rfl | rfl | rfl | rfl | rfl | rfl | rfl | rfl | rfl | rfl | rfl | rfl | rfl | rfl | rfl | rfl
  all_goals (rw [run_index_string (h := Try.underlying9)]; rfl)

/-- The reference's digit. -/
theorem rdigit_any (c : Nat) (w : World) (hc : c < 256) :
    Calls Try.prog 29 #[.int .u8 c] w fun e w' => e = .returned (.int .i64 (match digV c with | some d => (d : Int) | none => -1)) ∧ w = w' := by
  have hat := fun k hk => digits_at .i64 (k : Nat) k rfl hk
  have hne : ∀ k : Nat, k < 16 → digV c = none → hexN k ≠ c := fun k hk h e => by rw [← e, hexN_digV k hk] at h; cases h
  have hlt : ∀ k d : Nat, k < d → digV c = some d → hexN k ≠ c := fun k d hk h e => by
    have := digV_lt h
    rw [← e, hexN_digV k (by omega)] at h; cases h; omega
  have HNE := Lib.hid hne
  have HLT := Lib.hid hlt
  have HAT := Lib.hid hat
  clear hne hlt hat
  cases hd : digV c with
  | some d =>
    have hd16 := digV_lt hd
    have hdc := digV_hexN hd
    have HD := Lib.hid hd
    have HDC := Lib.hid hdc
    clear hd hdc
    go_enter Try.func29, Try.ntmps29
    go_wp2
    go_loopw [3] (fun iv wr => ∃ k : Nat, k ≤ d ∧ iv = .int .i64 k ∧ w = wr) (fun iv _ => 16 - (intOf iv).toNat)
    case atStart => exact ⟨0, by omega, rfl, rfl⟩
    case round =>
      obtain ⟨k, hk, rfl, rfl⟩ := hrel
      have hat := HAT.out k (by omega) w
      by_cases hkd : k < d
      · have hn : ((hexN k : Nat) : Int) ≠ (c : Int) := by have := HLT.out k d hkd HD.out; omega
        have hb : (((hexN k : Nat) : Int) == (c : Int)) = false := by simpa using hn
        clear hn
        go_wp2
        go_roundw
        case rel => exact ⟨k + 1, by omega, by go_num, trivial⟩
        case measure => simp [intOf]; omega
      · obtain rfl : k = d := by omega
        have hb : (((hexN k : Nat) : Int) == (c : Int)) = true := by rw [HDC.out]; simp
        go_wp2
        go_ret
        exact ⟨rfl, rfl⟩
  | none =>
    have HD := Lib.hid hd
    clear hd
    go_enter Try.func29, Try.ntmps29
    go_wp2
    go_loopw [3] (fun iv wr => ∃ k : Nat, k ≤ 16 ∧ iv = .int .i64 k ∧ w = wr) (fun iv _ => 16 - (intOf iv).toNat)
    case atStart => exact ⟨0, by omega, rfl, rfl⟩
    case round =>
      obtain ⟨k, hk, rfl, rfl⟩ := hrel
      by_cases hkd : k < 16
      · have hat := HAT.out k (by omega) w
        have hn : ((hexN k : Nat) : Int) ≠ (c : Int) := by have := HNE.out k hkd HD.out; omega
        have hb : (((hexN k : Nat) : Int) == (c : Int)) = false := by simpa using hn
        clear hn
        go_wp2
        go_roundw
        case rel => exact ⟨k + 1, by omega, by go_num, trivial⟩
        case measure => simp [intOf]; omega
      · obtain rfl : k = 16 := by omega
        go_wp2
        go_ret
        exact ⟨rfl, rfl⟩

/-- octet.appendPair -/
theorem appendPair_any (w : World) (base : Nat) (v : Value) (l : List UInt8) (x : UInt8) (h : OwnB w base 5 v l) (hb : base ≤ w.heap.size) (hl : l.length ≤ 70368744177664) :
    Calls Try.prog 30 #[v, .int .u8 (x.toNat : Nat)] w fun e w' => ∃ v', e = .returned v' ∧ OwnB w' base 5 v' (l ++ hexP x) ∧ Below base w w' := by
  obtain ⟨i0, hi, hz0, hz1, hz2⟩ := info_parts info5
  have hx := UInt8.toNat_lt x
  have h1 := digits_at .u8 ((x.toNat : Int) / 16) (x.toNat / 16) (by omega) (by omega)
  have h2 := digits_at .u8 (bits .and .u8 (x.toNat : Int) 15) (x.toNat % 16) (u8_and15 _ hx) (by omega)
  go_enter Try.func30, Try.ntmps30
  go_wp2
  refine wp_region_G (Below (base)) (by kernel_rfl) ?_
  -- 0: slot 5
  refine wpG_take (preBelow (base)) (i := 0) (v := ?_) (some 5) rfl (by kernel_rfl) (by kernel_rfl) (by kernel_rfl) (fun _ _ _ h => h) (by rfl) (fun w' hw' => ?_) rfl ?_
  rotate_left
  · go_simp
    with_reducible rfl
  simp only [Act.put, List.setIfInBounds_toArray, List.set_cons_zero, List.set_cons_succ]
  -- 1: slot 6
  refine wpG_take (preBelow (base)) (i := 1) (v := ?_) (some 6) rfl (by kernel_rfl) (by kernel_rfl) (by kernel_rfl) (fun _ _ _ h => h) (by rfl) (fun w' hw' => ?_) rfl ?_
  rotate_left
  · go_simp
    with_reducible rfl
  simp only [Act.put, List.setIfInBounds_toArray, List.set_cons_zero, List.set_cons_succ]
  -- 2: slot 7
  refine wpG_take (preBelow (base)) (i := 2) (v := ?_) (some 7) rfl (by kernel_rfl) (by kernel_rfl) (by kernel_rfl) (fun _ _ _ h => h) (by rfl) (fun w' hw' => ?_) rfl ?_
  rotate_left
  · go_simp
    with_reducible rfl
  simp only [Act.put, List.setIfInBounds_toArray, List.set_cons_zero, List.set_cons_succ]
  -- 3: slot 8
  refine wpG_take (preBelow (base)) (i := 3) (v := ?_) (some 8) rfl (by kernel_rfl) (by kernel_rfl) (by kernel_rfl) (fun _ _ _ h => h) (by rfl) (fun w' hw' => ?_) rfl ?_
  rotate_left
  · go_simp
    with_reducible rfl
  simp only [Act.put, List.setIfInBounds_toArray, List.set_cons_zero, List.set_cons_succ]
  -- 4: slot 9
  refine wpG_take (preBelow (base)) (i := 4) (v := ?_) (some 9) rfl (by kernel_rfl) (by kernel_rfl) (by kernel_rfl) (fun _ _ _ h => h) (by rfl) (fun w' hw' => ?_) rfl ?_
  rotate_left
  · go_simp
    with_reducible rfl
  simp only [Act.put, List.setIfInBounds_toArray, List.set_cons_zero, List.set_cons_succ]
  -- 5: slot 10
  refine wpG_take (preBelow (base)) (i := 5) (v := ?_) (some 10) rfl (by kernel_rfl) (by kernel_rfl) (by kernel_rfl) (fun _ _ _ h => h) (by rfl) (fun w' hw' => ?_) rfl ?_
  rotate_left
  · go_simp
    with_reducible rfl
  simp only [Act.put, List.setIfInBounds_toArray, List.set_cons_zero, List.set_cons_succ]
  -- 6: slot 11
  refine wpG_take (preBelow (base)) (i := 6) (v := ?_) (some 11) rfl (by kernel_rfl) (by kernel_rfl) (by kernel_rfl) (fun _ _ _ h => h) (by rfl) (fun w' hw' => ?_) rfl ?_
  rotate_left
  · go_simp
    with_reducible rfl
  simp only [Act.put, List.setIfInBounds_toArray, List.set_cons_zero, List.set_cons_succ]
  refine wpG_one (i := 7) rfl (by kernel_rfl) (by rfl) ?_
  go_simp
  refine ⟨((Below.refl base w.drew).alloc hb _), ?_⟩
  try simp only [Act.put, List.setIfInBounds_toArray, List.set_cons_zero, List.set_cons_succ]
  refine wpG_one (i := 8) rfl (by kernel_rfl) (by rfl) ?_
  refine wp_append_step (some 13) _ _ 23 rfl base 5 i0 (.int .u8 0) 1 1 Try.underlying23 hi hz0 hz1 hz2 rfl (by decide) v l.length (l.map u8v) rfl (World.ownsRow.alloc h _) ⟨w.heap.size, 0, none⟩ 2 2 ((hexP x).map u8v) rfl (by simp [hexP]) (by rw [hexP_cells]; exact cells_new w _ _) (oneCell_u8 _) (by unfold maxLen; omega) (by omega) (by simp; omega) rfl ?_
  intro v' w1 hown hbel
  refine ⟨hbel, ?_⟩
  try simp only [Act.put, List.setIfInBounds_toArray, List.set_cons_zero, List.set_cons_succ]
  -- 9: slot 4
  refine wpG_take (preBelow (base)) (i := 9) (v := ?_) (some 4) rfl (by kernel_rfl) (by kernel_rfl) (by kernel_rfl) (fun _ _ _ h => h) (by rfl) (fun w' hw' => ?_) rfl ?_
  rotate_left
  · go_simp
    with_reducible rfl
  simp only [Act.put, List.setIfInBounds_toArray, List.set_cons_zero, List.set_cons_succ]
  refine wpG_done (by kernel_rfl) ?_ _
  go_wp2
  go_ret
  refine ⟨v', rfl, ?_, ?_⟩
  · unfold OwnB; simpa [hexP] using hown
  · exact ((((Below.refl base w).alloc hb _)).drew).trans hbel
end Go.Proofs.Ytjpihjonkdgnhaa
