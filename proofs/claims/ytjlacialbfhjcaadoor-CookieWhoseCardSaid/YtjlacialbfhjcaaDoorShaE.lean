import Derived.Test.YtjlacialbfhjcaaDoorShaD
import Derived.Test.YtjlacialbfhjcaaDoorShaQ
import Derived.Test.YtjlacialbfhjcaaDoorPut
import Derived.Test.YtjlacialbfhjcaaDoorMake
namespace Go.Proofs.YtjlacialbfhjcaaDoor
open Go.RowKit
set_option linter.unusedVariables false
set_option linter.unusedSimpArgs false

theorem zeros_int (n : Nat) : (119 - (n : Int) % 64) % 64 = (zerosN n : Int) := by unfold zerosN; omega
/-- sha.Behind; n below 0 counts as 0. -/
theorem behind_any (n : Nat) (hn : n < 9223372036854775808) (z : Int) (hz : z = (n : Int) ∨ (z < 0 ∧ n = 0)) (w : World) :
    Calls Tryd.prog 52 #[.int .i64 z] w fun e w' => ∃ v, e = .returned v ∧ OwnB w' w.heap.size 5 v (behindL n) ∧ Below w.heap.size w w' := by
  obtain ⟨q, hq⟩ : ∃ q, q = zerosN n := ⟨_, rfl⟩
  have hzn : q < 64 := by rw [hq]; exact zerosN_lt n
  have e1 := zeros_int n
  rw [← hq] at e1
  have e2 : IntKind.u64.wrap (n : Int) = (n : Int) := by rw [IntKind.wrap_u64]; omega
  have e3 : IntKind.u64.wrap (8 * (n : Int)) = ((8 * n % 18446744073709551616 : Nat) : Int) := by rw [IntKind.wrap_u64]; omega
  obtain ⟨i0, hi, hz0, hz1, hz2⟩ := info_parts info5
  have H1 : ∀ v, (List.replicate (1 + q) (Value.int .u8 0)).set 0 (.int .u8 128) ++ (putL v 8).map u8v = (128 :: (List.replicate q 0 ++ putL v 8)).map u8v := fun v => by
    rw [Nat.add_comm, List.replicate_succ, List.set_cons_zero]
    simp [u8v]
  have HH := Lib.hid H1
  have HP := Lib.hid (put_yes (8 * n % 18446744073709551616) 8)
  have HQ := Lib.hid hq
  clear H1 hq
  rcases hz with rfl | ⟨hz, rfl⟩
  all_goals
    go_enter Tryd.func52, Tryd.ntmps52
    go_wp2_with (at_make; refine wpList_make_cap _ rfl _ _ 22 rfl w.heap.size 5 i0 (.int .u8 0) Tryd.underlying22 hi hz0 hz1 rfl _ _ _ _ (1 + q) (1 + q + 8) rfl rfl ?c1 ?c2 (by omega) ?c3 ?c4 ?c5 ?_)
    case c1 => first | omega | (have := HQ.out; simp [zerosN] at this; omega)
    case c2 => first | omega | (have := HQ.out; simp [zerosN] at this; omega)
    case c3 => rw [hz2]; omega
    case c4 => unfold maxLen; omega
    case c5 => simp
    intro w1 hown hb1
    have hf : w1.frozen? ⟨w.heap.size, 0, none⟩ = false := hown.frozenAt _
    have hc : w1.cell? ⟨w.heap.size, 0, none⟩ = some (.int .u8 0) := by rw [hown.cellAt _ (by omega)]; exact List.getElem?_replicate_of_lt (by omega)
    have HO := Lib.hid ((hown.stored 0 (.int .u8 128)).1)
    have HB := Lib.hid hb1
    clear hown hb1
    go_wp2_with fail
    refine (HP.out _ (by omega) (by omega) (by omega)).mono ?_
    rintro e w3 ⟨v3, rfl, hv3, hb3⟩
    have HO3 := Lib.hid (ownsRow_below HO.out hb3)
    have HR := Lib.hid hv3.bs
    have HB3 := Lib.hid ((HB.out.setCell (Nat.le_refl _) _).trans (hb3.mono (by simp; exact HB.out.size)))
    clear hv3 hb3
    go_wp2_with (at_builtin; refine wpList_append_rd _ rfl _ _ 22 rfl w.heap.size 5 i0 (.int .u8 0) 1 1 Tryd.underlying22 hi hz0 hz1 hz2 rfl (by decide) _ _ _ rfl HO3.out _ _ _ rfl HR.out (oneCell_u8 _) ?d1 (by decide) ?d2 ?_)
    case d1 => rw [putL_length]; omega
    case d2 => exact HB3.out.size
    intro v4 w4 hown4 hb4
    go_wp2
    go_ret
    refine ⟨v4, rfl, ?_, HB3.out.trans hb4⟩
    rw [HH.out] at hown4
    unfold OwnB behindL
    rw [← HQ.out]
    have hlen : ∀ m, (128 :: (List.replicate q (0 : UInt8) ++ putL m 8)).length = 1 + q + (putL m 8).length := fun m => by simp; omega
    rw [hlen]
    exact hown4
/-- The reference's Behind. -/
theorem rbehind_yes (n : Nat) (hn : n < 9223372036854775808) (w : World) :
    Calls Tryd.prog 45 #[.int .i64 (n : Int)] w fun e w' => ∃ v, e = .returned v ∧ OwnB w' w.heap.size 5 v (behindL n) ∧ Below w.heap.size w w' := by
  obtain ⟨q, hq⟩ : ∃ q, q = zerosN n := ⟨_, rfl⟩
  have hzn : q < 64 := by rw [hq]; exact zerosN_lt n
  have HF := Lib.hid (fun k h => zerosN_first n k h)
  have HA := Lib.hid (zerosN_at n)
  have HQ := Lib.hid hq
  have e2 : IntKind.u64.wrap (n : Int) = (n : Int) := by rw [IntKind.wrap_u64]; omega
  have e3 : IntKind.u64.wrap (8 * (n : Int)) = ((8 * n % 18446744073709551616 : Nat) : Int) := by rw [IntKind.wrap_u64]; omega
  obtain ⟨i0, hi, hz0, hz1, hz2⟩ := info_parts info5
  clear hq
  have hneg : ∀ m : Nat, (decide ((m : Int) < 0)) = false := fun m => by simp
  obtain ⟨B, hB⟩ : ∃ B, B = 8 * n % 18446744073709551616 := ⟨_, rfl⟩
  have hB64 : B < 18446744073709551616 := by omega
  rw [← hB] at e3
  have HB := Lib.hid hB
  clear hB
  go_enter Tryd.func45, Tryd.ntmps45
  go_wp2
  go_loopw [3] (fun v wr => ∃ (k : Nat) (a : Option Addr) (c : Nat), k ≤ q ∧ v = .slice a (1 + k) c ∧ Hid (wr.ownsRow w.heap.size 5 1 v (1 + k) (.int .u8 128 :: List.replicate k (.int .u8 0)) ∧ Below w.heap.size w wr)) (fun v _ => 100 - slen v)
  case atStart =>
    refine ⟨0, _, _, by omega, rfl, show _ ∧ _ from ⟨?_, (Below.refl _ _).alloc (Nat.le_refl _) _⟩⟩
    exact ⟨rfl, .inr ⟨w.heap.size, 1, _, rfl, Nat.le_refl _, heap_alloc_last _ _, Nat.le_refl _, by decide, rfl, rfl⟩⟩
  case round =>
    obtain ⟨k, a, c, hk, rfl, HO⟩ := hrel
    by_cases hlt : k < q
    · have hb : (((n : Int) % 64 + (1 + (k : Int)) + 8) % 64 != 0) = true := by
        have := HF.out k (by rw [← HQ.out]; exact hlt)
        simp only [bne_iff_ne, ne_eq]
        omega
      have HG : Hid (Below w.heap.size w (wr.alloc (.cells #[.int .u8 0] 5))) := HO.out.2.alloc HO.out.2.size _
      have HW : Hid (w.heap.size ≤ (wr.alloc (.cells #[.int .u8 0] 5)).heap.size) := HG.out.size
      have HO1 : Hid ((wr.alloc (.cells #[.int .u8 0] 5)).ownsRow w.heap.size 5 1 (.slice a (1 + k) c) (1 + k) (.int .u8 128 :: List.replicate k (.int .u8 0))) := HO.out.1.alloc _
      have HR : Hid (Rd (wr.alloc (.cells #[.int .u8 0] 5)) 1 (.slice (some ⟨wr.heap.size, 0, none⟩) 1 1) 1 [.int .u8 0]) := rd_new wr [.int .u8 0] 5 1 1 rfl (by decide)
      go_wp2_with (at_builtin; refine wpList_append_rd _ rfl _ _ 22 rfl w.heap.size 5 i0 (.int .u8 0) 1 1 Tryd.underlying22 hi hz0 hz1 hz2 rfl (by decide) _ _ _ rfl HO1.out _ _ _ rfl HR.out ?d0 ?d1 (by decide) HW.out ?_)
      case d0 => intro u hu; simp at hu; subst hu; rfl
      case d1 => omega
      intro v1 w1 hown hb1
      obtain ⟨a1, c1, hv1⟩ : ∃ a1 c1, v1 = .slice a1 (1 + k + 1) c1 := by
        obtain ⟨a1, c1, h, _⟩ := (own_rd hown).shape
        exact ⟨a1, c1, h⟩
      subst hv1
      have HO2 : Hid (w1.ownsRow w.heap.size 5 1 (.slice a1 (1 + (k + 1)) c1) (1 + (k + 1)) (.int .u8 128 :: List.replicate (k + 1) (.int .u8 0)) ∧ Below w.heap.size w w1) := by
        refine ⟨?_, HG.out.trans hb1⟩
        rw [List.replicate_succ', ← Nat.add_assoc]
        exact hown
      clear hown hb1 hb
      go_wp2
      go_roundw
      case rel =>
        first | exact ⟨k + 1, a1, c1, by omega, rfl, HO2⟩ | ((repeat apply Exists.intro); exact ⟨⟨k + 1, a1, c1, by omega, rfl, HO2⟩, rfl⟩)
      case measure => simp [slen]; omega
    · obtain rfl : k = q := by omega
      have hb : (((n : Int) % 64 + (1 + (k : Int)) + 8) % 64 != 0) = false := by
        have := HA.out
        rw [← HQ.out] at this
        simp only [bne_eq_false_iff_eq]
        omega
      go_wp2
      clear hb
      go_loopw [3, 5] (fun v i5 wr => ∃ (i : Nat) (a : Option Addr) (c : Nat), i ≤ 8 ∧ i5 = .int .i64 i ∧ v = .slice a (1 + k + i) c ∧ Hid (wr.ownsRow w.heap.size 5 1 v (1 + k + i) ((.int .u8 128 :: List.replicate k (.int .u8 0)) ++ ((putL B 8).take i).map u8v) ∧ Below w.heap.size w wr)) (fun _ i5 _ => 8 - (intOf i5).toNat)
      case atStart => exact ⟨0, a, c, by omega, rfl, rfl, show _ ∧ _ by simpa using HO.out⟩
      case round =>
        clear HO
        obtain ⟨i, a, c, hi8, rfl, rfl, HO⟩ := hrel
        by_cases hlt8 : i < 8
        · obtain ⟨m, hm⟩ : ∃ m, m = 56 - 8 * i := ⟨_, rfl⟩
          have em : IntKind.u64.wrap (56 - 8 * (i : Int)) = (m : Int) := by rw [IntKind.wrap_u64]; omega
          have em2 : (56 : Int) - 8 * (i : Int) = (m : Int) := by omega
          have m64 : m < 64 := by omega
          have HM := Lib.hid hm
          clear hm
          have HG : Hid (Below w.heap.size w (wr.alloc (.cells #[.int .u8 ((B : Int) / 2 ^ m % 256)] 5))) := HO.out.2.alloc HO.out.2.size _
          have HW : Hid (w.heap.size ≤ (wr.alloc (.cells #[.int .u8 ((B : Int) / 2 ^ m % 256)] 5)).heap.size) := HG.out.size
          have HO1 : Hid ((wr.alloc (.cells #[.int .u8 ((B : Int) / 2 ^ m % 256)] 5)).ownsRow w.heap.size 5 1 (.slice a (1 + k + i) c) (1 + k + i) ((.int .u8 128 :: List.replicate k (.int .u8 0)) ++ ((putL B 8).take i).map u8v)) := HO.out.1.alloc _
          have HR : Hid (Rd (wr.alloc (.cells #[.int .u8 ((B : Int) / 2 ^ m % 256)] 5)) 1 (.slice (some ⟨wr.heap.size, 0, none⟩) 1 1) 1 [.int .u8 ((B : Int) / 2 ^ m % 256)]) := rd_new wr [.int .u8 ((B : Int) / 2 ^ m % 256)] 5 1 1 rfl (by decide)
          go_wp2_with (at_builtin; refine wpList_append_rd _ rfl _ _ 22 rfl w.heap.size 5 i0 (.int .u8 0) 1 1 Tryd.underlying22 hi hz0 hz1 hz2 rfl (by decide) _ _ _ rfl HO1.out _ _ _ rfl HR.out ?d0 ?d1 (by decide) HW.out ?_)
          case d0 => intro u hu; simp at hu; subst hu; rfl
          case d1 => omega
          intro v1 w1 hown hb1
          obtain ⟨a1, c1, hv1⟩ : ∃ a1 c1, v1 = .slice a1 (1 + k + i + 1) c1 := by
            obtain ⟨a1, c1, h, _⟩ := (own_rd hown).shape
            exact ⟨a1, c1, h⟩
          subst hv1
          have HO2 : Hid (w1.ownsRow w.heap.size 5 1 (.slice a1 (1 + k + (i + 1)) c1) (1 + k + (i + 1)) ((.int .u8 128 :: List.replicate k (.int .u8 0)) ++ ((putL B 8).take (i + 1)).map u8v) ∧ Below w.heap.size w w1) := by
            refine ⟨?_, HG.out.trans hb1⟩
            have hl : i < (putL B 8).length := by rw [putL_length]; exact hlt8
            rw [List.take_succ_eq_append_getElem hl, List.map_append, ← List.append_assoc]
            have : [Value.int .u8 ((B : Int) / 2 ^ m % 256)] = [(putL B 8)[i]].map u8v := by
              have e : 2 ^ m = 256 ^ (8 - 1 - i) := by
                rw [HM.out, show (256 : Nat) = 2 ^ 8 by rfl, ← Nat.pow_mul]
                congr 1
                omega
              simp only [List.map_cons, List.map_nil, putL, List.getElem_map, List.getElem_range, u8v_ofNat, ← e]
              congr 2
            rw [← this]
            simpa [List.map_take, Nat.add_assoc] using hown
          clear hown hb1
          go_wp2
          go_roundw
          case rel =>
            first | exact ⟨i + 1, a1, c1, by omega, by go_num, rfl, HO2⟩ | ((repeat apply Exists.intro); exact ⟨⟨i + 1, a1, c1, by omega, by go_num, rfl, HO2⟩, rfl⟩)
          case measure => simp [intOf]; omega
        · obtain rfl : i = 8 := by omega
          go_wp2
          go_ret
          refine ⟨_, rfl, ?_, HO.out.2⟩
          have h := HO.out.1
          rw [List.take_of_length_le (by rw [putL_length]; omega)] at h
          unfold OwnB behindL
          rw [← HQ.out, ← HB.out]
          have hlen : ∀ m, (128 :: (List.replicate k (0 : UInt8) ++ putL m 8)).length = 1 + k + 8 := fun m => by simp [putL_length]; omega
          rw [hlen]
          simpa [u8v] using h
theorem rbehind_neg (z : Int) (hz : z < 0) (w : World) :
    Calls Tryd.prog 45 #[.int .i64 z] w fun e w' => ∃ v, e = .returned v ∧ OwnB w' w.heap.size 5 v (behindL 0) ∧ Below w.heap.size w w' := by
  obtain ⟨q, hq⟩ : ∃ q, q = zerosN 0 := ⟨_, rfl⟩
  have hzn : q < 64 := by rw [hq]; exact zerosN_lt 0
  have HF := Lib.hid (fun k h => zerosN_first 0 k h)
  have HA := Lib.hid (zerosN_at 0)
  have HQ := Lib.hid hq
  obtain ⟨i0, hi, hz0, hz1, hz2⟩ := info_parts info5
  clear hq
  obtain ⟨B, hB⟩ : ∃ B, B = 8 * 0 % 18446744073709551616 := ⟨_, rfl⟩
  have hB64 : B < 18446744073709551616 := by omega
  have HB := Lib.hid hB
  clear hB
  go_enter Tryd.func45, Tryd.ntmps45
  go_wp2
  go_loopw [3] (fun v wr => ∃ (k : Nat) (a : Option Addr) (c : Nat), k ≤ q ∧ v = .slice a (1 + k) c ∧ Hid (wr.ownsRow w.heap.size 5 1 v (1 + k) (.int .u8 128 :: List.replicate k (.int .u8 0)) ∧ Below w.heap.size w wr)) (fun v _ => 100 - slen v)
  case atStart =>
    refine ⟨0, _, _, by omega, rfl, show _ ∧ _ from ⟨?_, (Below.refl _ _).alloc (Nat.le_refl _) _⟩⟩
    exact ⟨rfl, .inr ⟨w.heap.size, 1, _, rfl, Nat.le_refl _, heap_alloc_last _ _, Nat.le_refl _, by decide, rfl, rfl⟩⟩
  case round =>
    obtain ⟨k, a, c, hk, rfl, HO⟩ := hrel
    by_cases hlt : k < q
    · have hb : ((1 + (k : Int) + 8) % 64 != 0) = true := by
        have := HF.out k (by rw [← HQ.out]; exact hlt)
        simp only [bne_iff_ne, ne_eq]
        omega
      have HG : Hid (Below w.heap.size w (wr.alloc (.cells #[.int .u8 0] 5))) := HO.out.2.alloc HO.out.2.size _
      have HW : Hid (w.heap.size ≤ (wr.alloc (.cells #[.int .u8 0] 5)).heap.size) := HG.out.size
      have HO1 : Hid ((wr.alloc (.cells #[.int .u8 0] 5)).ownsRow w.heap.size 5 1 (.slice a (1 + k) c) (1 + k) (.int .u8 128 :: List.replicate k (.int .u8 0))) := HO.out.1.alloc _
      have HR : Hid (Rd (wr.alloc (.cells #[.int .u8 0] 5)) 1 (.slice (some ⟨wr.heap.size, 0, none⟩) 1 1) 1 [.int .u8 0]) := rd_new wr [.int .u8 0] 5 1 1 rfl (by decide)
      go_wp2_with (at_builtin; refine wpList_append_rd _ rfl _ _ 22 rfl w.heap.size 5 i0 (.int .u8 0) 1 1 Tryd.underlying22 hi hz0 hz1 hz2 rfl (by decide) _ _ _ rfl HO1.out _ _ _ rfl HR.out ?d0 ?d1 (by decide) HW.out ?_)
      case d0 => intro u hu; simp at hu; subst hu; rfl
      case d1 => omega
      intro v1 w1 hown hb1
      obtain ⟨a1, c1, hv1⟩ : ∃ a1 c1, v1 = .slice a1 (1 + k + 1) c1 := by
        obtain ⟨a1, c1, h, _⟩ := (own_rd hown).shape
        exact ⟨a1, c1, h⟩
      subst hv1
      have HO2 : Hid (w1.ownsRow w.heap.size 5 1 (.slice a1 (1 + (k + 1)) c1) (1 + (k + 1)) (.int .u8 128 :: List.replicate (k + 1) (.int .u8 0)) ∧ Below w.heap.size w w1) := by
        refine ⟨?_, HG.out.trans hb1⟩
        rw [List.replicate_succ', ← Nat.add_assoc]
        exact hown
      clear hown hb1 hb
      go_wp2
      go_roundw
      case rel =>
        first | exact ⟨k + 1, a1, c1, by omega, rfl, HO2⟩ | ((repeat apply Exists.intro); exact ⟨⟨k + 1, a1, c1, by omega, rfl, HO2⟩, rfl⟩)
      case measure => simp [slen]; omega
    · obtain rfl : k = q := by omega
      have hb : ((1 + (k : Int) + 8) % 64 != 0) = false := by
        have := HA.out
        rw [← HQ.out] at this
        simp only [bne_eq_false_iff_eq]
        omega
      go_wp2
      clear hb
      go_loopw [3, 5] (fun v i5 wr => ∃ (i : Nat) (a : Option Addr) (c : Nat), i ≤ 8 ∧ i5 = .int .i64 i ∧ v = .slice a (1 + k + i) c ∧ Hid (wr.ownsRow w.heap.size 5 1 v (1 + k + i) ((.int .u8 128 :: List.replicate k (.int .u8 0)) ++ ((putL B 8).take i).map u8v) ∧ Below w.heap.size w wr)) (fun _ i5 _ => 8 - (intOf i5).toNat)
      case atStart => exact ⟨0, a, c, by omega, rfl, rfl, show _ ∧ _ by simpa using HO.out⟩
      case round =>
        clear HO
        obtain ⟨i, a, c, hi8, rfl, rfl, HO⟩ := hrel
        by_cases hlt8 : i < 8
        · have hm : i < 8 := hlt8
          have HG : Hid (Below w.heap.size w (wr.alloc (.cells #[.int .u8 0] 5))) := HO.out.2.alloc HO.out.2.size _
          have HW : Hid (w.heap.size ≤ (wr.alloc (.cells #[.int .u8 0] 5)).heap.size) := HG.out.size
          have HO1 : Hid ((wr.alloc (.cells #[.int .u8 0] 5)).ownsRow w.heap.size 5 1 (.slice a (1 + k + i) c) (1 + k + i) ((.int .u8 128 :: List.replicate k (.int .u8 0)) ++ ((putL B 8).take i).map u8v)) := HO.out.1.alloc _
          have HR : Hid (Rd (wr.alloc (.cells #[.int .u8 0] 5)) 1 (.slice (some ⟨wr.heap.size, 0, none⟩) 1 1) 1 [.int .u8 0]) := rd_new wr [.int .u8 0] 5 1 1 rfl (by decide)
          go_wp2_with (at_builtin; refine wpList_append_rd _ rfl _ _ 22 rfl w.heap.size 5 i0 (.int .u8 0) 1 1 Tryd.underlying22 hi hz0 hz1 hz2 rfl (by decide) _ _ _ rfl HO1.out _ _ _ rfl HR.out ?d0 ?d1 (by decide) HW.out ?_)
          case d0 => intro u hu; simp at hu; subst hu; rfl
          case d1 => omega
          intro v1 w1 hown hb1
          obtain ⟨a1, c1, hv1⟩ : ∃ a1 c1, v1 = .slice a1 (1 + k + i + 1) c1 := by
            obtain ⟨a1, c1, h, _⟩ := (own_rd hown).shape
            exact ⟨a1, c1, h⟩
          subst hv1
          have HO2 : Hid (w1.ownsRow w.heap.size 5 1 (.slice a1 (1 + k + (i + 1)) c1) (1 + k + (i + 1)) ((.int .u8 128 :: List.replicate k (.int .u8 0)) ++ ((putL B 8).take (i + 1)).map u8v) ∧ Below w.heap.size w w1) := by
            refine ⟨?_, HG.out.trans hb1⟩
            have hl : i < (putL B 8).length := by rw [putL_length]; exact hlt8
            rw [List.take_succ_eq_append_getElem hl, List.map_append, ← List.append_assoc]
            have : [Value.int .u8 0] = [(putL B 8)[i]].map u8v := by rw [HB.out]; simp [putL, u8v]
            rw [← this]
            simpa [List.map_take, Nat.add_assoc] using hown
          clear hown hb1
          go_wp2
          go_roundw
          case rel =>
            first | exact ⟨i + 1, a1, c1, by omega, by go_num, rfl, HO2⟩ | ((repeat apply Exists.intro); exact ⟨⟨i + 1, a1, c1, by omega, by go_num, rfl, HO2⟩, rfl⟩)
          case measure => simp [intOf]; omega
        · obtain rfl : i = 8 := by omega
          go_wp2
          go_ret
          refine ⟨_, rfl, ?_, HO.out.2⟩
          have h := HO.out.1
          rw [List.take_of_length_le (by rw [putL_length]; omega)] at h
          unfold OwnB behindL
          rw [← HQ.out, ← HB.out]
          have hlen : ∀ m, (128 :: (List.replicate k (0 : UInt8) ++ putL m 8)).length = 1 + k + 8 := fun m => by simp [putL_length]; omega
          rw [hlen]
          simpa [u8v] using h
end Go.Proofs.YtjlacialbfhjcaaDoor
