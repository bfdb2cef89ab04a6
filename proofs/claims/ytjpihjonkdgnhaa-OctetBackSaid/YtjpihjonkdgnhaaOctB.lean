import Derived.Test.YtjpihjonkdgnhaaOctA
namespace Go.Proofs.Ytjpihjonkdgnhaa
open Go.RowKit
set_option linter.unusedVariables false
set_option linter.unusedSimpArgs false




theorem sizeMayBe_yes (n : Int) (w : World) (h0 : 1 ≤ n) (h1 : n ≤ 8) :
    Calls Try.prog 26 #[.int .i64 n] w fun e w' => e = .returned (.bool true) ∧ w = w' := by
  go_enter Try.func26, Try.ntmps26
  go_wp2
  go_ret
  exact ⟨rfl, rfl⟩
theorem sizeMayBe_no (n : Int) (w : World) (h : n < 1 ∨ 8 < n) :
    Calls Try.prog 26 #[.int .i64 n] w fun e w' => e = .returned (.bool false) ∧ w = w' := by
  rcases h with h | h
  all_goals
    go_enter Try.func26, Try.ntmps26
    go_wp2
    go_ret
    first | exact ⟨rfl, rfl⟩ | exact ⟨by simp; omega, rfl⟩

theorem cut_any (a : Option Addr) (n c : Nat) (w : World) (hn : n ≤ c) (hc : c ≤ maxLen):
    Calls Try.prog 9 #[.slice a n c] w fun e w' => e = .returned (.slice a (min n 2000) c) ∧ w = w' := by
  unfold maxLen at hc
  by_cases h : n ≤ 2000
  · have e : min n 2000 = n := by omega
    rw [e]
    go_enter Try.func9, Try.ntmps9
    go_wp2
    go_ret
    exact ⟨rfl, rfl⟩
  · have e : min n 2000 = 2000 := by omega
    rw [e]
    go_enter Try.func9, Try.ntmps9
    go_wp2
    go_ret
    exact ⟨rfl, rfl⟩

theorem put_yes (n size : Nat) (w : World) (h0 : 1 ≤ size) (h1 : size ≤ 8) (hn : n < 18446744073709551616):
    Calls Try.prog 12 #[.int .u64 n, .int .i64 size] w fun e w' => ∃ v, e = .returned v ∧ OwnB w' w.heap.size 5 v (putL n size) ∧ Below w.heap.size w w' := by
  obtain ⟨i0, hi, hz0, hz1, hz2⟩ := info_parts info5
  go_enter Try.func12, Try.ntmps12
  go_wp2_with (first | (go_at_call 26; refine (sizeMayBe_yes _ _ (by omega) (by omega)).mono ?_; rintro e w' ⟨rfl, rfl⟩) | (at_make; refine wpList_make_full _ rfl _ _ 23 rfl w.heap.size 5 i0 (.int .u8 0) 1 Try.underlying23 hi hz0 hz1 _ _ _ _ size rfl rfl rfl rfl ?c1 ?c2 ?c3 ?_))
  case c1 => rw [hz2]; omega
  case c2 => unfold maxLen; omega
  case c3 => simp
  intro w1 hown hg
  have hb : Below w.heap.size w w1 := (Below.refl _ _).grown hg (Nat.le_refl _) (fun _ h => by cases h)
  clear hg
  go_wp2
  go_loopw [0, 13] (fun nv iv wr => ∃ k : Nat, k ≤ size ∧ iv = .int .i64 k ∧ nv = .int .u64 (n / 256 ^ k : Nat) ∧ wr.ownsRow w.heap.size 5 1 (.slice (some ⟨w.heap.size, 0, none⟩) size size) size (putK n size k) ∧ Below w.heap.size w wr) (fun _ iv _ => size - (intOf iv).toNat)
  case atStart =>
    refine ⟨0, Nat.zero_le _, rfl, by simp, ?_, hb⟩
    rw [putK_zero]
    rwa [toList_madeCells_one] at hown
  case round =>
    clear hown hb
    obtain ⟨k, hk, rfl, rfl, hown, hb⟩ := hrel
    by_cases hlt : k < size
    · have hf : wr.frozen? ⟨w.heap.size, size - 1 - k, none⟩ = false := hown.frozenAt _
      obtain ⟨u, hu⟩ : ∃ u, wr.cell? ⟨w.heap.size, size - 1 - k, none⟩ = some u := by
        rw [hown.cellAt _ (by omega)]
        exact ⟨_, List.getElem?_eq_getElem (by rw [putK_length]; omega)⟩
      go_wp2
      go_roundw
      case rel =>
        refine ⟨k + 1, by omega, by go_num, ?_, ?_, hb.setCell (Nat.le_refl _) _⟩
        · rw [← pow_step]; rfl
        · have := (hown.stored (size - 1 - k) (.int .u8 ((n / 256 ^ k % 256 : Nat) : Int))).1
          rw [putK_step n size k hlt] at this
          exact this
      case measure => simp [intOf]; omega
    · obtain rfl : k = size := by omega
      go_wp2
      go_ret
      exact ⟨_, rfl, by unfold OwnB; rw [putL_length, ← putK_full]; exact hown, hb⟩


theorem put_no (n : Int) (size : Int) (w : World) (h : size < 1 ∨ 8 < size) :
    Calls Try.prog 12 #[.int .u64 n, .int .i64 size] w fun e w' => e = .returned (.slice none 0 0) ∧ w = w' := by
  go_enter Try.func12, Try.ntmps12
  go_wp2_with (go_at_call 26; refine (sizeMayBe_no _ _ h).mono ?_; rintro e w' ⟨rfl, rfl⟩)
  go_ret
  exact ⟨rfl, rfl⟩

theorem rput_no (n : Int) (size : Int) (w : World) (h : size < 1 ∨ 8 < size) :
    Calls Try.prog 13 #[.int .u64 n, .int .i64 size] w fun e w' => e = .returned (.slice none 0 0) ∧ w = w' := by
  rcases h with h | h
  all_goals
    go_enter Try.func13, Try.ntmps13
    go_wp2
    go_ret
    exact ⟨rfl, rfl⟩

theorem rput_yes (n size : Nat) (w : World) (h0 : 1 ≤ size) (h1 : size ≤ 8) (hn : n < 18446744073709551616):
    Calls Try.prog 13 #[.int .u64 n, .int .i64 size] w fun e w' => ∃ v, e = .returned v ∧ OwnB w' w.heap.size 5 v (putL n size) ∧ Below w.heap.size w w' := by
  obtain ⟨i0, hi, hz0, hz1, hz2⟩ := info_parts info5
  go_enter Try.func13, Try.ntmps13
  go_wp2_with (at_make; refine wpList_make_full _ rfl _ _ 23 rfl w.heap.size 5 i0 (.int .u8 0) 1 Try.underlying23 hi hz0 hz1 _ _ _ _ size rfl rfl rfl rfl ?c1 ?c2 ?c3 ?_)
  case c1 => rw [hz2]; omega
  case c2 => unfold maxLen; omega
  case c3 => simp
  intro w1 hown hg
  have hb : Below w.heap.size w w1 := (Below.refl _ _).grown hg (Nat.le_refl _) (fun _ h => by cases h)
  clear hg
  go_wp2
  go_loopw [0, 6] (fun nv iv wr => ∃ k m : Nat, k ≤ size ∧ m = n / 256 ^ k ∧ iv = .int .i64 k ∧ nv = .int .u64 (m : Nat) ∧ wr.ownsRow w.heap.size 5 1 (.slice (some ⟨w.heap.size, 0, none⟩) size size) size (putK n size k) ∧ Below w.heap.size w wr) (fun _ iv _ => size - (intOf iv).toNat)
  case atStart =>
    refine ⟨0, n, Nat.zero_le _, by simp, rfl, rfl, ?_, hb⟩
    rw [putK_zero]
    rwa [toList_madeCells_one] at hown
  case round =>
    clear hown hb
    obtain ⟨k, m, hk, hm, rfl, rfl, hown, hb⟩ := hrel
    have hm' : m < 18446744073709551616 := by rw [hm]; exact Nat.lt_of_le_of_lt (Nat.div_le_self _ _) hn
    have HM := Lib.hid hm
    clear hm
    by_cases hlt : k < size
    · have hf : wr.frozen? ⟨w.heap.size, size - 1 - k, none⟩ = false := hown.frozenAt _
      obtain ⟨u, hu⟩ : ∃ u, wr.cell? ⟨w.heap.size, size - 1 - k, none⟩ = some u := by
        rw [hown.cellAt _ (by omega)]
        exact ⟨_, List.getElem?_eq_getElem (by rw [putK_length]; omega)⟩
      go_wp2
      go_roundw
      case rel =>
        refine ⟨k + 1, m / 256, by omega, by rw [HM.out, pow_step], by go_num, ?_, ?_, hb.setCell (Nat.le_refl _) _⟩
        · go_num
        · have := (hown.stored (size - 1 - k) (.int .u8 ((n / 256 ^ k % 256 : Nat) : Int))).1
          rw [putK_step n size k hlt, ← HM.out] at this
          simpa using this
      case measure => simp [intOf]; omega
    · obtain rfl : k = size := by omega
      go_wp2
      go_ret
      exact ⟨_, rfl, by unfold OwnB; rw [putL_length, ← putK_full]; exact hown, hb⟩

/-! Take -/
theorem clone_any (w : World) (a : Option Addr) (n c : Nat) (l : List UInt8) (hn : l.length = n) (h : Bs w (.slice a n c) l) (hr : n ≤ 140737488351232) :
    Calls Try.prog 27 #[.slice a n c] w fun e w' => ∃ v, e = .returned v ∧ OwnB w' w.heap.size 5 v l ∧ Below w.heap.size w w' := by
  subst hn
  obtain ⟨i0, hi, hz0, hz1, hz2⟩ := info_parts info5
  cases a with
  | none =>
    obtain ⟨h0, ao, cap, e, h1, h2, h3, h4⟩ := h
    simp only [Value.slice.injEq] at e
    obtain ⟨rfl, _, rfl⟩ := e
    have : c = 0 := h3 rfl
    subst this
    have hl : l = [] := List.eq_nil_of_length_eq_zero (by omega)
    subst hl
    have hq : ∀ w, (binOp .eql 23 (.slice none 0 0) (.slice none 0 0)).run Try.prog w = .ok (.bool true) w := fun w => Lib.run_eql_slice_nil (P := Try.prog) w 23 5 none 0 0 0 0 Try.underlying23
    simp only [List.length_nil]
    go_enter Try.func27, Try.ntmps27
    go_wp2
    go_ret
    exact ⟨_, rfl, OwnB.nil _ _ _, Below.refl _ _⟩
  | some ad =>
    have hq : ∀ w, (binOp .eql 23 (.slice (some ad) l.length c) (.slice none 0 0)).run Try.prog w = .ok (.bool false) w := fun w => Lib.run_eql_slice_nil (P := Try.prog) w 23 5 (some ad) l.length c 0 0 Try.underlying23
    go_enter Try.func27, Try.ntmps27
    go_wp2_with (at_builtin; refine wpList_append_rd _ rfl _ _ 23 rfl w.heap.size 5 i0 (.int .u8 0) 1 1 Try.underlying23 hi hz0 hz1 hz2 rfl (by decide) _ 0 [] rfl (World.ownsRow_made _ _ _ (Nat.le_refl _) (Nat.zero_le _) rfl) _ l.length (l.map u8v) rfl (Bs.below h ((Below.refl _ _).alloc (Nat.le_refl _) _)) (oneCell_u8 l) ?c1 (by decide) ?c2 ?_)
    case c1 => omega
    case c2 => simp
    intro v' w' hown hb
    go_wp2
    go_ret
    refine ⟨_, rfl, ?_, ((Below.refl _ _).alloc (Nat.le_refl _) _).trans hb⟩
    unfold OwnB
    simpa using hown



theorem take_yes (w : World) (a : Option Addr) (n c : Nat) (l : List UInt8) (size : Nat) (hn : l.length = n) (h : Bs w (.slice a n c) l) (h1 : 1 ≤ size) (h8 : size ≤ 8) (hs : size ≤ n) (hr : n ≤ 140737488351232) :
    Calls Try.prog 10 #[.slice a n c, .int .i64 size] w fun e w' => ∃ v, e = .returned (.tuple #[.int .u64 (takeN l size), v, .bool true]) ∧ OwnB w' w.heap.size 5 v (l.drop size) ∧ Below w.heap.size w w' := by
  subst hn
  obtain ⟨b, o, rfl, hb, hc⟩ := h.cells (by omega)
  obtain ⟨ao', cap', hsh, hcap, hmax⟩ := h.shape
  simp only [Value.slice.injEq] at hsh
  obtain ⟨rfl, _, rfl⟩ := hsh
  unfold maxLen at hmax
  obtain ⟨i0, hi, hz0, hz1, hz2⟩ := info_parts info5
  obtain ⟨ao, hsl, hrd⟩ := slice_from (P := Try.prog) Try.underlying23 hi hz1 h .i64 size size rfl hs
  have hrd' : Bs w (.slice ao (l.length - size) (c - size)) (l.drop size) := Bs.of_rd hrd (drop_u8 l size)
  clear hrd
  have hcl := clone_any w ao (l.length - size) (c - size) (l.drop size) (by simp) hrd' (by omega)
  have HCL := Lib.hid hcl
  clear hcl hrd' hi hz0 hz1 hz2
  go_enter Try.func10, Try.ntmps10
  go_wp2_with (go_at_call 26; refine (sizeMayBe_yes _ _ (by omega) (by omega)).mono ?_; rintro e w' ⟨rfl, rfl⟩)
  go_loopw [7, 19] (fun nv iv wr => ∃ k m : Nat, k ≤ size ∧ m = takeN l k ∧ iv = .int .i64 k ∧ nv = .int .u64 (m : Nat) ∧ w = wr) (fun _ iv _ => size - (intOf iv).toNat)
  case atStart => exact ⟨0, 0, by omega, (takeN_zero l).symm, rfl, rfl, rfl⟩
  case round =>
    obtain ⟨k, m, hk, hm, rfl, rfl, rfl⟩ := hrel
    by_cases hlt : k < size
    · have hm' : m < 72057594037927936 := by rw [hm]; exact takeN_lt7 l k (by omega) (by omega)
      have hck := hc k (by omega)
      have hlt' := UInt8.toNat_lt l[k]
      have HM := Lib.hid hm
      clear hm
      go_wp2
      go_roundw
      case rel =>
        refine ⟨k + 1, m * 256 + l[k].toNat, by omega, by rw [takeN_succ l k (by omega), HM.out], by go_num, ?_, trivial⟩
        rw [u64_or256 m _ hm' hlt']
      case measure => simp [intOf]; omega
    · obtain rfl : k = size := by omega
      have HM := Lib.hid hm
      clear hm
      go_wp2_with (go_at_call 27; refine HCL.out.mono ?_; rintro e w' ⟨v, rfl, hown, hbel⟩)
      go_ret3
      exact ⟨_, tup3 (by rw [HM.out]), by assumption, by assumption⟩

theorem take_no (w : World) (a : Option Addr) (n c : Nat) (size : Int) (h : size < 1 ∨ 8 < size ∨ (n : Int) < size) (hn : n ≤ c) (hc : c ≤ maxLen) :
    Calls Try.prog 10 #[.slice a n c, .int .i64 size] w fun e w' => e = .returned (.tuple #[.int .u64 0, .slice none 0 0, .bool false]) ∧ w = w' := by
  unfold maxLen at hc
  by_cases h1 : size < 1 ∨ 8 < size
  · go_enter Try.func10, Try.ntmps10
    go_wp2_with (go_at_call 26; refine (sizeMayBe_no _ _ h1).mono ?_; rintro e w' ⟨rfl, rfl⟩)
    go_ret3
    exact ⟨rfl, rfl⟩
  · have h2 : 1 ≤ size := by omega
    have h3 : size ≤ 8 := by omega
    have h4 : (n : Int) < size := by omega
    clear h h1
    go_enter Try.func10, Try.ntmps10
    go_wp2_with (go_at_call 26; refine (sizeMayBe_yes _ _ h2 h3).mono ?_; rintro e w' ⟨rfl, rfl⟩)
    go_ret3
    exact ⟨rfl, rfl⟩

theorem rtake_no (w : World) (a : Option Addr) (n c : Nat) (size : Int) (h : size < 1 ∨ 8 < size ∨ (n : Int) < size) (hn : n ≤ c) (hc : c ≤ maxLen) :
    Calls Try.prog 11 #[.slice a n c, .int .i64 size] w fun e w' => e = .returned (.tuple #[.int .u64 0, .slice none 0 0, .bool false]) ∧ w = w' := by
  unfold maxLen at hc
  by_cases h1 : size < 1
  · go_enter Try.func11, Try.ntmps11
    go_wp2
    go_ret3
    exact ⟨rfl, rfl⟩
  · by_cases h2 : 8 < size
    · go_enter Try.func11, Try.ntmps11
      go_wp2
      go_ret3
      exact ⟨rfl, rfl⟩
    · have h4 : (n : Int) < size := by omega
      clear h
      go_enter Try.func11, Try.ntmps11
      go_wp2
      go_ret3
      exact ⟨rfl, rfl⟩

theorem rtake_yes (w : World) (a : Option Addr) (n c : Nat) (l : List UInt8) (size : Nat) (hn : l.length = n) (h : Bs w (.slice a n c) l) (h1 : 1 ≤ size) (h8 : size ≤ 8) (hs : size ≤ n) (hr : n ≤ 140737488351232) :
    Calls Try.prog 11 #[.slice a n c, .int .i64 size] w fun e w' => ∃ v, e = .returned (.tuple #[.int .u64 (takeN l size), v, .bool true]) ∧ OwnB w' w.heap.size 5 v (l.drop size) ∧ Below w.heap.size w w' := by
  subst hn
  obtain ⟨b, o, rfl, hb, hc⟩ := h.cells (by omega)
  obtain ⟨ao', cap', hsh, hcap, hmax⟩ := h.shape
  simp only [Value.slice.injEq] at hsh
  obtain ⟨rfl, _, rfl⟩ := hsh
  unfold maxLen at hmax
  obtain ⟨i0, hi, hz0, hz1, hz2⟩ := info_parts info5
  obtain ⟨ao, hsl, hrd⟩ := slice_from (P := Try.prog) Try.underlying23 hi hz1 h .i64 size size rfl hs
  rw [drop_u8] at hrd
  have HRD := Lib.hid hrd
  clear hrd
  go_enter Try.func11, Try.ntmps11
  go_wp2
  go_loopw [7, 8] (fun nv iv wr => ∃ k m : Nat, k ≤ size ∧ m = takeN l k ∧ iv = .int .i64 k ∧ nv = .int .u64 (m : Nat) ∧ w = wr) (fun _ iv _ => size - (intOf iv).toNat)
  case atStart => exact ⟨0, 0, by omega, (takeN_zero l).symm, rfl, rfl, rfl⟩
  case round =>
    obtain ⟨k, m, hk, hm, rfl, rfl, rfl⟩ := hrel
    by_cases hlt : k < size
    · have hm' : m < 72057594037927936 := by rw [hm]; exact takeN_lt7 l k (by omega) (by omega)
      have hck := hc k (by omega)
      have hlt' := UInt8.toNat_lt l[k]
      have HM := Lib.hid hm
      clear hm
      go_wp2
      go_roundw
      case rel =>
        refine ⟨k + 1, m * 256 + l[k].toNat, by omega, by rw [takeN_succ l k (by omega), HM.out], by go_num, ?_, trivial⟩
        go_num
      case measure => simp [intOf]; omega
    · obtain rfl : k = size := by omega
      have HM := Lib.hid hm
      clear hm
      go_wp2_with (at_builtin; refine wpList_append_rd _ rfl _ _ 23 rfl w.heap.size 5 i0 (.int .u8 0) 1 1 Try.underlying23 hi hz0 hz1 hz2 rfl (by decide) _ 0 [] rfl (World.ownsRow_made _ _ _ (Nat.le_refl _) (Nat.zero_le _) rfl) _ (l.length - k) ((l.drop k).map u8v) rfl (Rd.below HRD.out ((Below.refl _ _).alloc (Nat.le_refl _) _)) (oneCell_u8 _) ?c1 (by decide) ?c2 ?_)
      case c1 => omega
      case c2 => simp
      intro v' w' hown hb
      go_wp2
      go_ret3
      refine ⟨_, tup3 (by rw [HM.out]), ?_, ((Below.refl _ _).alloc (Nat.le_refl _) _).trans hb⟩
      unfold OwnB
      simpa using hown
end Go.Proofs.Ytjpihjonkdgnhaa
