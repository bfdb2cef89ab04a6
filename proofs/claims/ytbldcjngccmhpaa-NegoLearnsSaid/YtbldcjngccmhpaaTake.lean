/-
  bytes.Clone; octet.Take, where the bytes are enough.
-/
import Derived.Test.YtbldcjngccmhpaaPut
namespace Go.Proofs.Ytbldcjngccmhpaa
open Go.RowKit
set_option linter.unusedVariables false
set_option linter.unusedSimpArgs false

theorem clone_any (w : World) (a : Option Addr) (n c : Nat) (l : List UInt8) (hn : l.length = n) (h : Bs w (.slice a n c) l) (hr : n ≤ 140737488351232) :
    Calls Try.prog 57 #[.slice a n c] w fun e w' => ∃ v, e = .returned v ∧ OwnB w' w.heap.size 5 v l ∧ Below w.heap.size w w' := by
  subst hn
  obtain ⟨i0, hi, hz0, hz1, hz2⟩ := info_parts info5
  cases a with
  | none =>
    obtain ⟨h0, ao, cap, e, h1, h2, h3, h4⟩ := h
    simp only [Value.slice.injEq] at e
    obtain ⟨rfl, _, rfl⟩ := e
    have : c = 0 := h3 rfl
    subst this
    have hl : l = [] := List.eq_nil_of_length_eq_zero (by omega)
    subst hl
    have hq : ∀ w, (binOp .eql 40 (.slice none 0 0) (.slice none 0 0)).run Try.prog w = .ok (.bool true) w := fun w => Lib.run_eql_slice_nil (P := Try.prog) w 40 5 none 0 0 0 0 Try.underlying40
    simp only [List.length_nil]
    go_enter Try.func57, Try.ntmps57
    go_wp2
    go_ret
    exact ⟨_, rfl, OwnB.nil _ _ _, Below.refl _ _⟩
  | some ad =>
    have hq : ∀ w, (binOp .eql 40 (.slice (some ad) l.length c) (.slice none 0 0)).run Try.prog w = .ok (.bool false) w := fun w => Lib.run_eql_slice_nil (P := Try.prog) w 40 5 (some ad) l.length c 0 0 Try.underlying40
    go_enter Try.func57, Try.ntmps57
    go_wp2_with (at_builtin; refine wpList_append_rd _ rfl _ _ 40 rfl w.heap.size 5 i0 (.int .u8 0) 1 1 Try.underlying40 hi hz0 hz1 hz2 rfl (by decide) _ 0 [] rfl (World.ownsRow_made _ _ _ (Nat.le_refl _) (Nat.zero_le _) rfl) _ l.length (l.map u8v) rfl (Bs.below h ((Below.refl _ _).alloc (Nat.le_refl _) _)) (oneCell_u8 l) ?c1 (by decide) ?c2 ?_)
    case c1 => omega
    case c2 => simp
    intro v' w' hown hb
    go_wp2
    go_ret
    refine ⟨_, rfl, ?_, ((Below.refl _ _).alloc (Nat.le_refl _) _).trans hb⟩
    unfold OwnB
    simpa using hown
theorem take_yes (w : World) (a : Option Addr) (n c : Nat) (l : List UInt8) (size : Nat) (hn : l.length = n) (h : Bs w (.slice a n c) l) (h1 : 1 ≤ size) (h8 : size ≤ 8) (hs : size ≤ n) (hr : n ≤ 140737488351232) :
    Calls Try.prog 58 #[.slice a n c, .int .i64 size] w fun e w' => ∃ v, e = .returned (.tuple #[.int .u64 (takeN l size), v, .bool true]) ∧ OwnB w' w.heap.size 5 v (l.drop size) ∧ Below w.heap.size w w' := by
  subst hn
  obtain ⟨b, o, rfl, hb, hc⟩ := h.cells (by omega)
  obtain ⟨ao', cap', hsh, hcap, hmax⟩ := h.shape
  simp only [Value.slice.injEq] at hsh
  obtain ⟨rfl, _, rfl⟩ := hsh
  unfold maxLen at hmax
  obtain ⟨i0, hi, hz0, hz1, hz2⟩ := info_parts info5
  obtain ⟨ao, hsl, hrd⟩ := slice_from (P := Try.prog) Try.underlying40 hi hz1 h .i64 size size rfl hs
  have hrd' : Bs w (.slice ao (l.length - size) (c - size)) (l.drop size) := Bs.of_rd hrd (drop_u8 l size)
  clear hrd
  have hcl := clone_any w ao (l.length - size) (c - size) (l.drop size) (by simp) hrd' (by omega)
  have HCL := Lib.hid hcl
  clear hcl hrd' hi hz0 hz1 hz2
  go_enter Try.func58, Try.ntmps58
  go_wp2_with (go_at_call 67; refine (sizeMayBe_yes _ _ (by omega) (by omega)).mono ?_; rintro e w' ⟨rfl, rfl⟩)
  go_loopw [7, 19] (fun nv iv wr => ∃ k m : Nat, k ≤ size ∧ m = takeN l k ∧ iv = .int .i64 k ∧ nv = .int .u64 (m : Nat) ∧ w = wr) (fun _ iv _ => size - (intOf iv).toNat)
  case atStart => exact ⟨0, 0, by omega, (takeN_zero l).symm, rfl, rfl, rfl⟩
  case round =>
    obtain ⟨k, m, hk, hm, rfl, rfl, rfl⟩ := hrel
    by_cases hlt : k < size
    · have hm' : m < 72057594037927936 := by rw [hm]; exact takeN_lt7 l k (by omega) (by omega)
      have hck := hc k (by omega)
      have hlt' := UInt8.toNat_lt l[k]
      have HM := Lib.hid hm
      clear hm
      go_wp2
      go_roundw
      case rel =>
        refine ⟨k + 1, m * 256 + l[k].toNat, by omega, by rw [takeN_succ l k (by omega), HM.out], by go_num, ?_, trivial⟩
        rw [u64_or256 m _ hm' hlt']
      case measure => simp [intOf]; omega
    · obtain rfl : k = size := by omega
      have HM := Lib.hid hm
      clear hm
      go_wp2_with (go_at_call 57; refine HCL.out.mono ?_; rintro e w' ⟨v, rfl, hown, hbel⟩)
      go_ret3
      exact ⟨_, tup3 (by rw [HM.out]), by assumption, by assumption⟩

end Go.Proofs.Ytbldcjngccmhpaa
