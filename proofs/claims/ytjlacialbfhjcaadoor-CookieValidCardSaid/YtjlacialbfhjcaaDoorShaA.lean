import Derived.Test.YtjlacialbfhjcaaDoorRows
import Derived.Test.YtjlacialbfhjcaaDoorShaP
import Derived.ProofKit
import Derived.BigQuiet
import Derived.Deep.QuietTactic
import Derived.Test.YtjlacialbfhjcaaDoorGrow
namespace Go.Proofs.YtjlacialbfhjcaaDoor
open Go.RowKit
set_option linter.unusedVariables false
set_option linter.unusedSimpArgs false

theorem choose_any (x y z : UInt32) (w : World) :
    Calls Tryd.prog 58 #[u32v x, u32v y, u32v z] w fun e w' => e = .returned (u32v (chB x y z)) ∧ w = w' := by
  rw [← ch_xor]
  have wAnd := w_and; have wOr := w_or; have wXor := w_xor; have wNot := w_not; have wAdd := w_add
  go_enter Tryd.func58, Tryd.ntmps58
  go_wp2
  go_ret
  exact ⟨rfl, rfl⟩
theorem majority_any (x y z : UInt32) (w : World) :
    Calls Tryd.prog 59 #[u32v x, u32v y, u32v z] w fun e w' => e = .returned (u32v (mjB x y z)) ∧ w = w' := by
  rw [← mj_xor]
  have wAnd := w_and; have wOr := w_or; have wXor := w_xor; have wNot := w_not; have wAdd := w_add
  go_enter Tryd.func59, Tryd.ntmps59
  go_wp2
  go_ret
  exact ⟨rfl, rfl⟩
theorem turned_any (x : UInt32) (n : Nat) (h0 : 0 < n) (h1 : n < 32) (w : World) :
    Calls Tryd.prog 55 #[u32v x, .int .u32 n] w fun e w' => e = .returned (u32v (rotr x n)) ∧ w = w' := by
  unfold rotr
  have wAnd := w_and; have wOr := w_or; have wXor := w_xor; have wNot := w_not; have wAdd := w_add
  have e1 := w_shr x n h1
  have e2 := w_shl' x (32 - n) (by omega)
  go_enter Tryd.func55, Tryd.ntmps55
  go_wp2
  go_ret
  exact ⟨rfl, rfl⟩
theorem and31 (n m : Nat) (h0 : 0 < n) (h1 : n < 32) (hm : m = 32 - n) : bits .and .u64 (IntKind.u64.wrap (-(n : Int))) 31 = (m : Int) := by
  have e : IntKind.u64.wrap (-(n : Int)) = ((18446744073709551616 - n : Nat) : Int) := by rw [IntKind.wrap_u64]; omega
  have e2 : (31 : Int) = ((31 : Nat) : Int) := rfl
  rw [e, e2, u64_and_nat _ 31 (by omega) (by decide)]
  congr 1
  rw [show 31 = 2 ^ 5 - 1 from rfl, Nat.and_two_pow_sub_one_eq_mod]
  omega
theorem rotl_any (x : UInt32) (n : Nat) (h0 : 0 < n) (h1 : n < 32) (w : World) :
    Calls Tryd.prog 62 #[u32v x, .int .i64 (-(n : Int))] w fun e w' => e = .returned (u32v (rotr x n)) ∧ w = w' := by
  rw [← rotl_r x n (by omega)]
  have wAnd := w_and; have wOr := w_or; have wXor := w_xor; have wNot := w_not; have wAdd := w_add
  obtain ⟨m, hm⟩ : ∃ m, m = 32 - n := ⟨_, rfl⟩
  have e0 := and31 n m h0 h1 hm
  have e1 := w_shr x n h1
  have e2 := w_shl' x m (by omega)
  have b1 : m < 32 := by omega
  have e3 : 32 - m = n := by omega
  rw [← hm]
  clear hm
  go_enter Tryd.func62, Tryd.ntmps62
  go_wp2
  go_ret
  exact ⟨rfl, rfl⟩
theorem turns_any (x : UInt32) (i j k : Nat) (hi : 0 < i ∧ i < 32) (hj : 0 < j ∧ j < 32) (hk : 0 < k ∧ k < 32) (w : World) :
    Calls Tryd.prog 57 #[u32v x, .int .i64 i, .int .i64 j, .int .i64 k] w fun e w' => e = .returned (u32v (rotr x i ^^^ rotr x j ^^^ rotr x k)) ∧ w = w' := by
  have R := Lib.hid (rotl_any x)
  obtain ⟨i0, i1⟩ := hi
  obtain ⟨j0, j1⟩ := hj
  obtain ⟨k0, k1⟩ := hk
  have wAnd := w_and; have wOr := w_or; have wXor := w_xor; have wNot := w_not; have wAdd := w_add
  go_enter Tryd.func57, Tryd.ntmps57
  go_wp2_with fail
  refine (R.out i (by omega) (by omega) _).mono ?_
  rintro e w' ⟨rfl, rfl⟩
  go_wp2_with fail
  refine (R.out j (by omega) (by omega) _).mono ?_
  rintro e w' ⟨rfl, rfl⟩
  go_wp2_with fail
  refine (R.out k (by omega) (by omega) _).mono ?_
  rintro e w' ⟨rfl, rfl⟩
  go_wp2
  go_ret
  exact ⟨rfl, rfl⟩
theorem turns_S1 (x : UInt32) (w : World) : Calls Tryd.prog 57 #[u32v x, .int .i64 6, .int .i64 11, .int .i64 25] w fun e w' => e = .returned (u32v (bS1 x)) ∧ w = w' :=
  turns_any x 6 11 25 (by omega) (by omega) (by omega) w
theorem turns_S0 (x : UInt32) (w : World) : Calls Tryd.prog 57 #[u32v x, .int .i64 2, .int .i64 13, .int .i64 22] w fun e w' => e = .returned (u32v (bS0 x)) ∧ w = w' :=
  turns_any x 2 13 22 (by omega) (by omega) (by omega) w
theorem blend_any (x : UInt32) (i j k : Nat) (hi : 0 < i ∧ i < 32) (hj : 0 < j ∧ j < 32) (hk : 0 < k ∧ k < 32) (w : World) :
    Calls Tryd.prog 61 #[u32v x, .int .i64 i, .int .i64 j, .int .i64 k] w fun e w' => e = .returned (u32v (rotr x i ^^^ rotr x j ^^^ (x >>> UInt32.ofNat k))) ∧ w.drew = w' := by
  have R := Lib.hid (rotl_any x)
  obtain ⟨i0, i1⟩ := hi
  obtain ⟨j0, j1⟩ := hj
  obtain ⟨k0, k1⟩ := hk
  have e1 := w_shr x k k1
  have n1 : IntKind.i64.wrap (-(i : Int)) = -(i : Int) := IntWalk.i64_in _ (by omega)
  have n2 : IntKind.i64.wrap (-(j : Int)) = -(j : Int) := IntWalk.i64_in _ (by omega)
  have wAnd := w_and; have wOr := w_or; have wXor := w_xor; have wNot := w_not; have wAdd := w_add
  go_enter Tryd.func61, Tryd.ntmps61
  go_wp2
  refine wp_region_G 14 Gr (by kernel_rfl) ?_
  -- 0: slot 9
  refine wpG_take preGr (i := 0) (v := ?_) (by kernel_rfl) (some 9) (by kernel_rfl) rfl (by kernel_rfl) (by kernel_rfl) (by kernel_rfl) (fun _ _ _ h => h) (by rfl) (fun w' hw' => ?_) rfl ?_
  rotate_left
  · go_simp
    with_reducible rfl
  simp only [Act.put, List.setIfInBounds_toArray, List.set_cons_zero, List.set_cons_succ]
  -- 1: slot 10
  refine wpG_take preGr (i := 1) (v := ?_) (by kernel_rfl) (some 10) (by kernel_rfl) rfl (by kernel_rfl) (by kernel_rfl) (by kernel_rfl) (fun _ _ _ h => h) (by rfl) (fun w' hw' => ?_) rfl ?_
  rotate_left
  · go_simp
    with_reducible rfl
  simp only [Act.put, List.setIfInBounds_toArray, List.set_cons_zero, List.set_cons_succ]
  -- 2: slot 11
  refine wpG_take preGr (i := 2) (v := ?_) (by kernel_rfl) (some 11) (by kernel_rfl) rfl (by kernel_rfl) (by kernel_rfl) (by kernel_rfl) (fun _ _ _ h => h) (by rfl) (fun w' hw' => ?_) rfl ?_
  rotate_left
  · go_simp
    with_reducible rfl
  simp only [Act.put, List.setIfInBounds_toArray, List.set_cons_zero, List.set_cons_succ]
  -- 4: slot 13
  refine wpG_take preGr (i := 4) (v := ?_) (by kernel_rfl) (some 13) (by kernel_rfl) rfl (by kernel_rfl) (by kernel_rfl) (by kernel_rfl) (fun _ _ _ h => h) (by rfl) (fun w' hw' => ?_) rfl ?_
  rotate_left
  · go_simp
    with_reducible rfl
  simp only [Act.put, List.setIfInBounds_toArray, List.set_cons_zero, List.set_cons_succ]
  -- 5: slot 14
  refine wpG_take preGr (i := 5) (v := ?_) (by kernel_rfl) (some 14) (by kernel_rfl) rfl (by kernel_rfl) (by kernel_rfl) (by kernel_rfl) (fun _ _ _ h => h) (by rfl) (fun w' hw' => ?_) rfl ?_
  rotate_left
  · go_simp
    with_reducible rfl
  simp only [Act.put, List.setIfInBounds_toArray, List.set_cons_zero, List.set_cons_succ]
  -- 6: slot 15
  refine wpG_take preGr (i := 6) (v := ?_) (by kernel_rfl) (some 15) (by kernel_rfl) rfl (by kernel_rfl) (by kernel_rfl) (by kernel_rfl) (fun _ _ _ h => h) (by rfl) (fun w' hw' => ?_) rfl ?_
  rotate_left
  · go_simp
    with_reducible rfl
  simp only [Act.put, List.setIfInBounds_toArray, List.set_cons_zero, List.set_cons_succ]
  -- 9: slot 18
  refine wpG_take preGr (i := 9) (v := ?_) (by kernel_rfl) (some 18) (by kernel_rfl) rfl (by kernel_rfl) (by kernel_rfl) (by kernel_rfl) (fun _ _ _ h => h) (by rfl) (fun w' hw' => ?_) rfl ?_
  rotate_left
  · go_simp
    with_reducible rfl
  simp only [Act.put, List.setIfInBounds_toArray, List.set_cons_zero, List.set_cons_succ]
  -- 10: slot 19
  refine wpG_take preGr (i := 10) (v := ?_) (by kernel_rfl) (some 19) (by kernel_rfl) rfl (by kernel_rfl) (by kernel_rfl) (by kernel_rfl) (fun _ _ _ h => h) (by rfl) (fun w' hw' => ?_) rfl ?_
  rotate_left
  · go_simp
    with_reducible rfl
  simp only [Act.put, List.setIfInBounds_toArray, List.set_cons_zero, List.set_cons_succ]
  -- 11: slot 20
  refine wpG_take preGr (i := 11) (v := ?_) (by kernel_rfl) (some 20) (by kernel_rfl) rfl (by kernel_rfl) (by kernel_rfl) (by kernel_rfl) (fun _ _ _ h => h) (by rfl) (fun w' hw' => ?_) rfl ?_
  rotate_left
  · go_simp
    with_reducible rfl
  simp only [Act.put, List.setIfInBounds_toArray, List.set_cons_zero, List.set_cons_succ]
  refine wpG_one (i := 3) rfl (by kernel_rfl) (by rfl) ?_
  go_simp
  refine (R.out i (by omega) (by omega) _).mono ?_
  rintro e w' ⟨rfl, rfl⟩
  refine ⟨Gr.refl _, ?_⟩
  try simp only [Act.put, List.setIfInBounds_toArray, List.set_cons_zero, List.set_cons_succ]
  refine wpG_one (i := 7) rfl (by kernel_rfl) (by rfl) ?_
  go_simp
  refine (R.out j (by omega) (by omega) _).mono ?_
  rintro e w' ⟨rfl, rfl⟩
  refine ⟨Gr.refl _, ?_⟩
  try simp only [Act.put, List.setIfInBounds_toArray, List.set_cons_zero, List.set_cons_succ]
  -- 8: slot 17
  refine wpG_take preGr (i := 8) (v := ?_) (by kernel_rfl) (some 17) (by kernel_rfl) rfl (by kernel_rfl) (by kernel_rfl) (by kernel_rfl) (fun _ _ _ h => h) (by rfl) (fun w' hw' => ?_) rfl ?_
  rotate_left
  · go_simp
    with_reducible rfl
  simp only [Act.put, List.setIfInBounds_toArray, List.set_cons_zero, List.set_cons_succ]
  -- 12: slot 21
  refine wpG_take preGr (i := 12) (v := ?_) (by kernel_rfl) (some 21) (by kernel_rfl) rfl (by kernel_rfl) (by kernel_rfl) (by kernel_rfl) (fun _ _ _ h => h) (by rfl) (fun w' hw' => ?_) rfl ?_
  rotate_left
  · go_simp
    with_reducible rfl
  simp only [Act.put, List.setIfInBounds_toArray, List.set_cons_zero, List.set_cons_succ]
  -- 13: slot 8
  refine wpG_take preGr (i := 13) (v := ?_) (by kernel_rfl) (some 8) (by kernel_rfl) rfl (by kernel_rfl) (by kernel_rfl) (by kernel_rfl) (fun _ _ _ h => h) (by rfl) (fun w' hw' => ?_) rfl ?_
  rotate_left
  · go_simp
    with_reducible rfl
  simp only [Act.put, List.setIfInBounds_toArray, List.set_cons_zero, List.set_cons_succ]
  refine wpG_done (by kernel_rfl) ?_ _
  go_wp2
  go_ret
  exact ⟨rfl, rfl⟩
theorem blend_s0 (x : UInt32) (w : World) : Calls Tryd.prog 61 #[u32v x, .int .i64 7, .int .i64 18, .int .i64 3] w fun e w' => e = .returned (u32v (sS0 x)) ∧ w.drew = w' :=
  blend_any x 7 18 3 (by omega) (by omega) (by omega) w
theorem blend_s1 (x : UInt32) (w : World) : Calls Tryd.prog 61 #[u32v x, .int .i64 17, .int .i64 19, .int .i64 10] w fun e w' => e = .returned (u32v (sS1 x)) ∧ w.drew = w' :=
  blend_any x 17 19 10 (by omega) (by omega) (by omega) w
end Go.Proofs.YtjlacialbfhjcaaDoor
