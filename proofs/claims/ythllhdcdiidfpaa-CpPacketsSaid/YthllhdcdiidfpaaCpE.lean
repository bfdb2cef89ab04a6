/-
  cp.Join, cp.Encode, whatever comes.
-/
import Derived.Test.YthllhdcdiidfpaaCpB
namespace Go.Proofs.Ythllhdcdiidfpaa
open Go.RowKit
set_option linter.unusedVariables false
set_option linter.unusedSimpArgs false

theorem wireJ_eq (X : Nat) (l : List UInt8) : wireJ ⟨X, l⟩ = putL X 2 ++ l := by
  simp [wireJ, putL, List.range_succ]
theorem wireC_eq (X Y : Nat) (l : List UInt8) : wireC ⟨X, Y, l⟩ = ([UInt8.ofNat X, UInt8.ofNat Y] ++ putL (4 + l.length) 2) ++ l := by
  simp [wireC, putL, List.range_succ]

set_option maxHeartbeats 4000000 in
theorem join_any (C : Int) (A : Option Addr) (L K : Nat) (l : List UInt8) (hl : l.length = L) (w : World) (hb : Bs w (.slice A L K) l) (hL : L ≤ 1000000) :
    Calls Try.prog 11 #[.agg #[.int .i64 C, .slice A L K]] w (BRes (joinE ⟨C, l⟩) (joinB ⟨C, l⟩) w) := by
  obtain ⟨i0, hi, hz0, hz1, hz2⟩ := info_parts info5
  have BA : Below w.heap.size w (w.alloc (.cells #[.int .i64 C, .slice A L K] 24)) := (Below.refl _ _).alloc (Nat.le_refl _) _
  have HB := Lib.hid BA
  have PM := Lib.hid (protoMayBe_any C (w.alloc (.cells #[.int .i64 C, .slice A L K] 24)))
  have HG0 : Hid ((w.alloc (.cells #[.int .i64 C, .slice A L K] 24)).heap[w.heap.size]? = some (.cells #[.int .i64 C, .slice A L K] 24)) := heap_alloc_last _ _
  have HV := Lib.hid hb
  have HL := Lib.hid hl
  clear BA hb hl
  go_enter Try.func11, Try.ntmps11
  go_wp2_with fail
  refine PM.out.mono ?_
  rintro e w' ⟨rfl, rfl⟩
  cases hp : protoB C with
  | false =>
    have HE := Lib.hid (joinE_no (q := ⟨C, l⟩) hp)
    clear hp PM
    go_wp2
    go_ret2
    exact BRes.none HE.out (joinB_no (by rw [HE.out]; decide)) HB.out
  | true =>
    obtain ⟨p1, p2, p3, p4⟩ := protoB_true hp
    by_cases h5 : 1492 < L
    · have HE := Lib.hid (joinE_long (q := ⟨C, l⟩) hp (by show 1492 < l.length; rw [HL.out]; exact h5))
      clear hp p3 p4 PM
      obtain ⟨k0, k1⟩ := cells2 HG0.out
      go_wp2
      go_ret2
      exact BRes.none HE.out (joinB_no (by rw [HE.out]; decide)) HB.out
    have HE := Lib.hid (joinE_ok (q := ⟨C, l⟩) hp (by show ¬ 1492 < l.length; rw [HL.out]; exact h5))
    clear hp p3 p4 PM
    obtain ⟨X, rfl⟩ : ∃ X : Nat, C = (X : Int) := ⟨C.toNat, by omega⟩
    obtain ⟨M, hM⟩ : ∃ M : Nat, (2 : Int) + (L : Int) = (M : Int) := ⟨2 + L, by omega⟩
    have hsz : (w.alloc (.cells #[.int .i64 (X : Int), .slice A L K] 24)).heap.size = w.heap.size + 1 := World.size_alloc _ _
    have HBN := Lib.hid HB.out.size
    have HSZ := Lib.hid hsz
    obtain ⟨k0, k1⟩ := cells2 HG0.out
    clear hsz
    go_wp2_with (refine wpList_make_cap _ rfl _ _ 22 rfl w.heap.size 5 i0 (.int .u8 0) Try.underlying22 hi hz0 hz1 rfl _ _ _ _ 0 M rfl rfl rfl rfl ?a3 ?a4 ?a5 HBN.out ?_)
    case a3 => exact Nat.zero_le _
    case a4 => rw [hz2]; omega
    case a5 => unfold maxLen; omega
    intro w3 hown3 hb3
    rw [← HSZ.out] at hb3
    have HO3 : Hid (OwnB w3 w.heap.size 5 (.slice (some ⟨w.heap.size + 1, 0, none⟩) 0 M) []) := hown3
    have HB3 := Lib.hid (HB.out.trans (hb3.mono HBN.out))
    have HG3 := Lib.hid (heap_below HG0.out hb3)
    clear hown3 hb3 k0 k1
    obtain ⟨k0, k1⟩ := cells2 HG3.out
    have PT := Lib.hid (put_yes X 2 w3 (by decide) (by decide) (by omega))
    go_wp2_with fail
    refine PT.out.mono ?_
    rintro e w4 ⟨v4, rfl, hown4, hb4⟩
    have HB4 := Lib.hid (HB3.out.trans (hb4.mono HB3.out.size))
    have HG4 := Lib.hid (heap_below HG3.out hb4)
    have HO4 := Lib.hid (HO3.out.below hb4)
    have HR4 : Hid (Rd w4 1 v4 2 ((putL X 2).map u8v)) := hown4.bs
    clear hown4 hb4 PT k0 k1
    go_wp2_with (at_builtin; refine wpList_append_gr _ rfl _ _ 22 rfl w.heap.size 5 i0 (.int .u8 0) 1 1 Try.underlying22 hi hz0 hz1 hz2 rfl (by decide) _ _ _ rfl HO4.out _ _ _ rfl HR4.out (oneCell_u8 _) (by decide) (by decide) HB4.out.size ?_)
    intro v5 w5 hown5 hg5
    have HG5 := Lib.hid (grown_heap HO4.out hg5 HG4.out (by decide))
    have HB5 := Lib.hid (HB4.out.trans (grown_below HO4.out HB4.out.size hg5))
    have HO5 : Hid (OwnB w5 w.heap.size 5 v5 ([] ++ putL X 2)) := OwnB.of_app hown5 rfl (putL_length _ _)
    have HV5 : Hid (Rd w5 1 (.slice A L K) L (l.map u8v)) := by
      have := HV.out.below HB5.out
      unfold Bs at this
      rw [HL.out] at this
      exact this
    obtain ⟨k0, k1⟩ := cells2 HG5.out
    clear hown5 hg5
    go_wp2_with (at_builtin; refine wpList_append_gr _ rfl _ _ 22 rfl w.heap.size 5 i0 (.int .u8 0) 1 1 Try.underlying22 hi hz0 hz1 hz2 rfl (by decide) _ _ _ rfl HO5.out _ _ _ rfl HV5.out (oneCell_u8 _) ?q1 (by decide) HB5.out.size ?_)
    case q1 => simp [putL_length]; omega
    intro v6 w6 hown6 hg6
    have HB6 := Lib.hid (HB5.out.trans (grown_below HO5.out HB5.out.size hg6))
    have HO6 : Hid (OwnB w6 w.heap.size 5 v6 (wireJ ⟨X, l⟩)) := by
      show OwnB _ _ _ _ _
      rw [wireJ_eq]
      exact OwnB.of_app hown6 (by simp [putL_length]) HL.out
    clear hown6 hg6 k0 k1
    go_wp2
    go_ret2
    exact BRes.some HE.out (joinB_yes HE.out) HO6.out HB6.out

set_option maxHeartbeats 4000000 in
theorem cencode_any (C S : Int) (A : Option Addr) (L K : Nat) (l : List UInt8) (hl : l.length = L) (w : World) (hb : Bs w (.slice A L K) l) (hL : L ≤ 1000000) :
    Calls Try.prog 17 #[.agg #[.int .i64 C, .int .i64 S, .slice A L K]] w (BRes (cencE ⟨C, S, l⟩) (cencB ⟨C, S, l⟩) w) := by
  obtain ⟨i0, hi, hz0, hz1, hz2⟩ := info_parts info5
  have BA : Below w.heap.size w (w.alloc (.cells #[.int .i64 C, .int .i64 S, .slice A L K] 39)) := (Below.refl _ _).alloc (Nat.le_refl _) _
  have HB := Lib.hid BA
  have IB1 := Lib.hid (isByte_any C (w.alloc (.cells #[.int .i64 C, .int .i64 S, .slice A L K] 39)))
  have IB2 := Lib.hid (isByte_any S (w.alloc (.cells #[.int .i64 C, .int .i64 S, .slice A L K] 39)))
  have HG0 : Hid ((w.alloc (.cells #[.int .i64 C, .int .i64 S, .slice A L K] 39)).heap[w.heap.size]? = some (.cells #[.int .i64 C, .int .i64 S, .slice A L K] 39)) := heap_alloc_last _ _
  have HV := Lib.hid hb
  have HL := Lib.hid hl
  clear BA hb hl
  go_enter Try.func17, Try.ntmps17
  go_wp2_with fail
  refine IB1.out.mono ?_
  rintro e w' ⟨rfl, rfl⟩
  cases hp : byteB C with
  | false =>
    have HE := Lib.hid (cencE_code (q := ⟨C, S, l⟩) hp)
    clear hp IB1 IB2
    go_wp2
    go_ret2
    exact BRes.none HE.out (cencB_no (by rw [HE.out]; decide)) HB.out
  | true =>
    go_wp2_with fail
    refine IB2.out.mono ?_
    rintro e w' ⟨rfl, rfl⟩
    cases hq : byteB S with
    | false =>
      have HE := Lib.hid (cencE_num (q := ⟨C, S, l⟩) hq)
      clear hp hq IB1 IB2
      go_wp2
      go_ret2
      exact BRes.none HE.out (cencB_no (by rw [HE.out]; decide)) HB.out
    | true =>
      obtain ⟨p1, p2⟩ := byteB_true hp
      obtain ⟨p3, p4⟩ := byteB_true hq
      obtain ⟨k0, k1, k2⟩ := cells3 HG0.out
      by_cases h5 : 1488 < L
      · have HE := Lib.hid (cencE_long (q := ⟨C, S, l⟩) hp hq (by show 1488 < l.length; rw [HL.out]; exact h5))
        clear hp hq IB1 IB2
        go_wp2
        go_ret2
        exact BRes.none HE.out (cencB_no (by rw [HE.out]; decide)) HB.out
      have HE := Lib.hid (cencE_ok (q := ⟨C, S, l⟩) hp hq (by show ¬ 1488 < l.length; rw [HL.out]; exact h5))
      clear hp hq IB1 IB2
      obtain ⟨X, rfl⟩ : ∃ X : Nat, C = (X : Int) := ⟨C.toNat, by omega⟩
      obtain ⟨Y, rfl⟩ : ∃ Y : Nat, S = (Y : Int) := ⟨S.toNat, by omega⟩
      obtain ⟨M, hM⟩ : ∃ M : Nat, (4 : Int) + (L : Int) = (M : Int) := ⟨4 + L, by omega⟩
      have hsz : (w.alloc (.cells #[.int .i64 (X : Int), .int .i64 (Y : Int), .slice A L K] 39)).heap.size = w.heap.size + 1 := World.size_alloc _ _
      have HBN := Lib.hid HB.out.size
      have HSZ := Lib.hid hsz
      clear hsz
      go_wp2_with (refine wpList_make_cap _ rfl _ _ 22 rfl w.heap.size 5 i0 (.int .u8 0) Try.underlying22 hi hz0 hz1 rfl _ _ _ _ 0 M rfl rfl rfl rfl ?a3 ?a4 ?a5 HBN.out ?_)
      case a3 => exact Nat.zero_le _
      case a4 => rw [hz2]; omega
      case a5 => unfold maxLen; omega
      intro w3 hown3 hb3
      rw [← HSZ.out] at hb3
      have HO3 : Hid (OwnB w3 w.heap.size 5 (.slice (some ⟨w.heap.size + 1, 0, none⟩) 0 M) []) := hown3
      have HB3 := Lib.hid (HB.out.trans (hb3.mono HBN.out))
      have HG3 := Lib.hid (heap_below HG0.out hb3)
      have HE4 := Lib.hid ((Below.refl w3.heap.size w3).alloc (Nat.le_refl _) (.cells #[.int .u8 (X : Int), .int .u8 (Y : Int)] 5))
      have HB4 := Lib.hid (HB3.out.trans (HE4.out.mono HB3.out.size))
      have HO4 := Lib.hid (HO3.out.below HE4.out)
      have HG4 := Lib.hid (heap_below HG3.out HE4.out)
      have e2 : [Value.int .u8 (X : Int), .int .u8 (Y : Int)] = ([UInt8.ofNat X, UInt8.ofNat Y] : List UInt8).map u8v := by
        have g : ∀ n : Nat, n < 256 → Value.int .u8 (n : Int) = u8v (UInt8.ofNat n) := fun n hn => by
          unfold u8v
          rw [UInt8.toNat_ofNat', Nat.mod_eq_of_lt hn]
        rw [g X (by omega), g Y (by omega)]
        rfl
      have hr4 := rd_new w3 [Value.int .u8 (X : Int), .int .u8 (Y : Int)] 5 2 1 rfl (by decide)
      rw [e2] at hr4
      have e3 : ((.cells #[.int .u8 (X : Int), .int .u8 (Y : Int)] 5) : Obj) = .cells (([UInt8.ofNat X, UInt8.ofNat Y] : List UInt8).map u8v).toArray 5 := by rw [← e2]
      rw [← e3] at hr4
      have HR4 : Hid (Rd (w3.alloc (.cells #[.int .u8 (X : Int), .int .u8 (Y : Int)] 5)) 1 (.slice (some ⟨w3.heap.size, 0, none⟩) 2 2) 2 (([UInt8.ofNat X, UInt8.ofNat Y] : List UInt8).map u8v)) := hr4
      clear hown3 hb3 k0 k1 k2 e2 e3 hr4
      obtain ⟨k0, k1, k2⟩ := cells3 HG3.out
      go_wp2_with (at_builtin; refine wpList_append_gr _ rfl _ _ 22 rfl w.heap.size 5 i0 (.int .u8 0) 1 1 Try.underlying22 hi hz0 hz1 hz2 rfl (by decide) _ _ _ rfl HO4.out _ _ _ rfl HR4.out (oneCell_u8 _) (by decide) (by decide) HB4.out.size ?_)
      intro v5 w5 hown5 hg5
      have HG5 := Lib.hid (grown_heap HO4.out hg5 HG4.out (by decide))
      have HB5 := Lib.hid (HB4.out.trans (grown_below HO4.out HB4.out.size hg5))
      have HO5 : Hid (OwnB w5 w.heap.size 5 v5 ([] ++ [UInt8.ofNat X, UInt8.ofNat Y])) := OwnB.of_app hown5 rfl rfl
      clear hown5 hg5 k0 k1 k2
      obtain ⟨k0, k1, k2⟩ := cells3 HG5.out
      have PT := Lib.hid (put_yes M 2 w5 (by decide) (by decide) (by omega))
      go_wp2_with fail
      refine PT.out.mono ?_
      rintro e w6 ⟨v6, rfl, hown6, hb6⟩
      have HB6 := Lib.hid (HB5.out.trans (hb6.mono HB5.out.size))
      have HG6 := Lib.hid (heap_below HG5.out hb6)
      have HO6 := Lib.hid (HO5.out.below hb6)
      have HR6 : Hid (Rd w6 1 v6 2 ((putL M 2).map u8v)) := hown6.bs
      clear hown6 hb6 PT k0 k1 k2
      go_wp2_with (at_builtin; refine wpList_append_gr _ rfl _ _ 22 rfl w.heap.size 5 i0 (.int .u8 0) 1 1 Try.underlying22 hi hz0 hz1 hz2 rfl (by decide) _ _ _ rfl HO6.out _ _ _ rfl HR6.out (oneCell_u8 _) (by simp) (by decide) HB6.out.size ?_)
      intro v7 w7 hown7 hg7
      have HG7 := Lib.hid (grown_heap HO6.out hg7 HG6.out (by decide))
      have HB7 := Lib.hid (HB6.out.trans (grown_below HO6.out HB6.out.size hg7))
      have HO7 : Hid (OwnB w7 w.heap.size 5 v7 (([] ++ [UInt8.ofNat X, UInt8.ofNat Y]) ++ putL M 2)) := OwnB.of_app hown7 rfl (putL_length _ _)
      have HV7 : Hid (Rd w7 1 (.slice A L K) L (l.map u8v)) := by
        have := HV.out.below HB7.out
        unfold Bs at this
        rw [HL.out] at this
        exact this
      obtain ⟨k0, k1, k2⟩ := cells3 HG7.out
      clear hown7 hg7
      go_wp2_with (at_builtin; refine wpList_append_gr _ rfl _ _ 22 rfl w.heap.size 5 i0 (.int .u8 0) 1 1 Try.underlying22 hi hz0 hz1 hz2 rfl (by decide) _ _ _ rfl HO7.out _ _ _ rfl HV7.out (oneCell_u8 _) ?q1 (by decide) HB7.out.size ?_)
      case q1 => simp [putL_length]; omega
      intro v8 w8 hown8 hg8
      have HB8 := Lib.hid (HB7.out.trans (grown_below HO7.out HB7.out.size hg8))
      have HO8 : Hid (OwnB w8 w.heap.size 5 v8 (wireC ⟨X, Y, l⟩)) := by
        show OwnB _ _ _ _ _
        rw [wireC_eq, show 4 + l.length = M by rw [HL.out]; omega]
        exact OwnB.of_app hown8 (by simp [putL_length]) HL.out
      clear hown8 hg8 k0 k1 k2
      go_wp2
      go_ret2
      exact BRes.some HE.out (cencB_yes HE.out) HO8.out HB8.out
end Go.Proofs.Ythllhdcdiidfpaa
