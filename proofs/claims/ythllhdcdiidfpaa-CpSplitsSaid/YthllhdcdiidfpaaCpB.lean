/-
  cp.piece; cp.reader and the numbers that its closure reads, one behind the other.
-/
import Derived.Test.YthllhdcdiidfpaaCpA
namespace Go.Proofs.Ythllhdcdiidfpaa
open Go.RowKit
set_option linter.unusedVariables false
set_option linter.unusedSimpArgs false

theorem piece_any (w : World) (a : Option Addr) (n c : Nat) (l : List UInt8) (hn : l.length = n) (h : Bs w (.slice a n c) l) (k m : Nat) (hk : k ≤ m) (hm : m ≤ n) (hr : n ≤ 1000000) :
    Calls Try.prog 26 #[.slice a n c, .int .i64 k, .int .i64 m] w fun e w' => ∃ v, e = .returned v ∧ OwnB w' w.heap.size 5 v ((l.drop k).take (m - k)) ∧ Below w.heap.size w w' := by
  obtain ⟨i0, hi, hz0, hz1, hz2⟩ := info_parts info5
  have h' : Rd w 1 (.slice a n c) n (l.map u8v) := by
    have := h
    unfold Bs at this
    rw [hn] at this
    exact this
  obtain ⟨ao, hsl, hrd⟩ := slice_three (P := Try.prog) Try.underlying22 hi hz1 h' .i64 .i64 .i64 k m k m rfl rfl hk hm
  rw [drop_u8, take_u8] at hrd
  have hbs : Bs w (.slice ao (m - k) (m - k)) ((l.drop k).take (m - k)) := Bs.of_rd hrd rfl
  have CL := Lib.hid (clone_any w ao (m - k) (m - k) _ (by rw [List.length_take, List.length_drop]; omega) hbs (by omega))
  clear hn h h' hrd hbs hi hz0 hz1 hz2
  go_enter Try.func26, Try.ntmps26
  go_wp2_with fail
  refine CL.out.mono ?_
  rintro e w' ⟨v, rfl, hown, hb⟩
  have HO := Lib.hid hown
  have HB := Lib.hid hb
  clear hown hb
  go_wp2
  go_ret
  exact ⟨v, rfl, HO.out, HB.out⟩

theorem reader_any (w : World) (a : Option Addr) (n c : Nat) :
    Calls Try.prog 24 #[.slice a n c] w fun e w' => e = .returned (.func (.func 36) #[] #[.pointer (some ⟨w.heap.size + 1, 0, none⟩), .pointer (some ⟨w.heap.size, 0, none⟩)]) ∧
      w'.heap[w.heap.size]? = some (.cells #[.slice a n c] 22 (0, 0)) ∧ w'.heap[w.heap.size + 1]? = some (.cells #[.int .i64 0] 3 (0, 0)) ∧ Below w.heap.size w w' := by
  have HB : Hid (Below w.heap.size w ((w.alloc (.cells #[.slice a n c] 22)).alloc (.cells #[.int .i64 0] 3))) := ((Below.refl _ _).alloc (Nat.le_refl _) _).alloc (by simp) _
  have HG0 : Hid (((w.alloc (.cells #[.slice a n c] 22)).alloc (.cells #[.int .i64 0] 3)).heap[w.heap.size]? = some (.cells #[.slice a n c] 22 (0, 0))) := heap2_0' _ _ _
  have HG1 : Hid (((w.alloc (.cells #[.slice a n c] 22)).alloc (.cells #[.int .i64 0] 3)).heap[w.heap.size + 1]? = some (.cells #[.int .i64 0] 3 (0, 0))) := heap2_1' _ _ _
  go_enter Try.func24, Try.ntmps24
  go_wp2
  go_ret
  exact ⟨rfl, HG0.out, HG1.out, HB.out⟩

theorem reader_ex (w : World) (a : Option Addr) (n c : Nat) :
    Calls Try.prog 24 #[.slice a n c] w fun e w' => ∃ ga gb, e = .returned (.func (.func 36) #[] #[.pointer (some ⟨ga, 0, none⟩), .pointer (some ⟨gb, 0, none⟩)]) ∧ w.heap.size ≤ ga ∧ gb ≠ ga ∧
      w'.heap[gb]? = some (.cells #[.slice a n c] 22 (0, 0)) ∧ w'.heap[ga]? = some (.cells #[.int .i64 0] 3 (0, 0)) ∧ Below w.heap.size w w' := by
  refine (reader_any w a n c).mono ?_
  rintro e w' ⟨rfl, h1, h2, h3⟩
  exact ⟨_, _, rfl, Nat.le_succ _, Nat.ne_of_lt (Nat.lt_succ_self _), h1, h2, h3⟩

set_option maxHeartbeats 1000000 in
theorem next_any (w0 w : World) (a : Option Addr) (n c : Nat) (l : List UInt8) (hn : l.length = n) (hb : Bs w0 (.slice a n c) l) (hw : Below w0.heap.size w0 w) (ga gb : Nat) (hga : w0.heap.size ≤ ga) (hne : gb ≠ ga) (k size m R : Nat)
    (h1 : 1 ≤ size) (h2 : size ≤ 2) (hm : k + size = m) (hk : m ≤ n) (hR : takeN ((l.drop k).take size) size = R) (hR2 : R < 65536) (hr : n ≤ 1000000)
    (hg : w.heap[ga]? = some (.cells #[.int .i64 k] 3 (0, 0))) (hg2 : w.heap[gb]? = some (.cells #[.slice a n c] 22 (0, 0))) :
    Calls Try.prog 36 #[.int .i64 size, .pointer (some ⟨ga, 0, none⟩), .pointer (some ⟨gb, 0, none⟩)] w fun e w' => e = .returned (.int .i64 R) ∧ w'.heap[ga]? = some (.cells #[.int .i64 m] 3 (0, 0)) ∧ Only ga w w' := by
  obtain ⟨i0, hi, hz0, hz1, hz2⟩ := info_parts info5
  have h' : Rd w0 1 (.slice a n c) n (l.map u8v) := by
    have := hb
    unfold Bs at this
    rw [hn] at this
    exact this
  obtain ⟨ao, hsl, hrd⟩ := slice_three (P := Try.prog) Try.underlying22 hi hz1 h' .i64 .i64 .i64 k m k m rfl rfl (by omega) hk
  rw [drop_u8, take_u8] at hrd
  rw [show m - k = size by omega] at hrd hsl
  have hbs : Bs w0 (.slice ao size size) ((l.drop k).take size) := Bs.of_rd hrd rfl
  have ho : Only ga w (w.setCell ⟨ga, 0, none⟩ (.int .i64 m)) := Only.setCell w 0 _
  have hbel : Below w0.heap.size w0 (w.setCell ⟨ga, 0, none⟩ (.int .i64 m)) := ho.below _ _ hga hw
  have TK := take_yes (w.setCell ⟨ga, 0, none⟩ (.int .i64 m)) ao size size _ size (by rw [List.length_take, List.length_drop]; omega) (hbs.below hbel) h1 (by omega) (Nat.le_refl _) (by omega)
  rw [hR] at TK
  have HTK := Lib.hid TK
  have HO := Lib.hid ho
  have HG1 : Hid ((w.setCell ⟨ga, 0, none⟩ (.int .i64 m)).heap[ga]? = some (.cells #[.int .i64 m] 3 (0, 0))) := heap_setCell_same w ga 0 _ _ _ hg
  have k0 := cell1 hg
  have k1 := cell1 hg2
  have f0 := frozen_of_row _ _ 0 _ _ hg
  have k2 : (w.setCell ⟨ga, 0, none⟩ (.int .i64 m)).cell? ⟨gb, 0, none⟩ = some (.slice a n c) := ho.cell (by exact hne) k1
  have k3 := cell1 HG1.out
  have HLT : Hid (ga < w.heap.size) := (Array.getElem?_eq_some_iff.1 hg).1
  have hM : (k : Int) + (size : Int) = (m : Int) := by omega
  clear hn hb h' hrd hbs ho hbel TK hR hi hz0 hz1 hz2 hg hg2 hw
  go_enter Try.func36, Try.ntmps36
  go_wp2_with fail
  refine HTK.out.mono ?_
  rintro e w2 ⟨v, rfl, hown, hb2⟩
  have HB2 := Lib.hid hb2
  have HG2 := Lib.hid (heap_below HG1.out hb2)
  clear hown hb2
  go_wp2
  go_ret
  exact ⟨rfl, HG2.out, HO.out.trans (Only.grown HB2.out (by rw [World.size_setCell]; exact Nat.le_of_lt HLT.out))⟩
end Go.Proofs.Ythllhdcdiidfpaa
