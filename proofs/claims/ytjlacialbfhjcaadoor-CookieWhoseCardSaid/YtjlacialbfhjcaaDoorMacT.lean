/-
  The document's Bytes, Check, Derive; how the laws cut what comes in.
-/
import Derived.Test.YtjlacialbfhjcaaDoorMacS
import Derived.Test.YtjlacialbfhjcaaDoorOwnC
namespace Go.Proofs.YtjlacialbfhjcaaDoor
open Go.RowKit
set_option linter.unusedVariables false
set_option linter.unusedSimpArgs false

/-- What the loop of Bytes holds. -/
def BY (w wr : World) (y : List UInt8) (v : Value) (k : Nat) : Prop :=
  wr.ownsRow (w.heap.size + 1) 5 1 v k ((y.take k).map u8v) ∧ Below w.heap.size w wr ∧ wr.heap[w.heap.size]? = some (.cells (y.map u8v).toArray 56 (0, 0))
theorem BY.next {w wr w' : World} {k : Nat} {y : List UInt8} {v v' : Value} {o : Obj} (h : BY w wr y v k) (hk : k < y.length) (hb : Below (w.heap.size + 1) (wr.alloc o) w') (ho : w'.ownsRow (w.heap.size + 1) 5 1 v' (k + 1) ((y.take k).map u8v ++ [u8v y[k]])) : BY w w' y v' (k + 1) := by
  obtain ⟨h1, h2, h3⟩ := h
  have hs := (Array.getElem?_eq_some_iff.1 h3).1
  have hb' : Below (w.heap.size + 1) wr w' := (((Below.refl _ wr).alloc (by omega) o)).trans hb
  have e : (y.take k).map u8v ++ [u8v y[k]] = (y.take (k + 1)).map u8v := by
    rw [List.take_succ_eq_append_getElem hk, List.map_append]
    rfl
  rw [e] at ho
  exact ⟨ho, h2.trans (hb'.mono (by omega)), by rw [hb'.block _ (by omega)]; exact h3⟩
set_option maxHeartbeats 1000000 in
theorem rbytes_any (y : List UInt8) (hy : y.length = 32) (w : World) :
    Calls Tryd.prog 28 #[.agg (y.map u8v).toArray] w fun e w' => ∃ a c, e = .returned (.slice a 32 c) ∧ Bs w' (.slice a 32 c) y ∧ Below w.heap.size w w' := by
  obtain ⟨i0, hi, hz0, hz1, hz2⟩ := info_parts info5
  have HYL := Lib.hid hy
  have HI : Hid (BY w (w.alloc (.cells (y.map u8v).toArray 56)) y (.slice none 0 0) 0) := ⟨World.ownsRow_nil _ _ _ _, (Below.refl _ _).alloc (Nat.le_refl _) _, heap_alloc_last _ _⟩
  clear hy
  go_enter Tryd.func28, Tryd.ntmps28
  go_wp2
  go_loopw [3, 4] (fun v3 i4 wr => ∃ (k : Nat) (av : Option Addr) (cv : Nat), k ≤ 32 ∧ i4 = .int .i64 (k : Int) ∧ v3 = .slice av k cv ∧ Hid (BY w wr y v3 k)) (fun _ i4 _ => 32 - (intOf i4).toNat)
  case atStart => exact ⟨0, none, 0, by omega, rfl, rfl, HI⟩
  case round =>
    clear HI
    obtain ⟨k, av, cv, hk, rfl, rfl, HI⟩ := hrel
    by_cases hlt : k < 32
    · have hky : k < y.length := by have := HYL.out; omega
      have c0 : wr.cell? ⟨w.heap.size, k, none⟩ = some (.int .u8 (y[k].toNat : Int)) := by
        rw [cell_of_row _ _ _ _ _ _ HI.out.2.2]
        simp [hky, u8v]
      obtain ⟨z, hz⟩ : ∃ z, z = y[k] := ⟨_, rfl⟩
      rw [← hz] at c0
      have HZ := Lib.hid hz
      have hz8 := UInt8.toNat_lt z
      have O0 : Hid ((wr.alloc (.cells #[.int .u8 (z.toNat : Int)] 5)).ownsRow (w.heap.size + 1) 5 1 (.slice av k cv) k ((y.take k).map u8v)) := HI.out.1.alloc _
      have P0 : Hid (Rd (wr.alloc (.cells #[.int .u8 (z.toNat : Int)] 5)) 1 (.slice (some ⟨wr.heap.size, 0, none⟩) 1 1) 1 [.int .u8 (z.toNat : Int)]) := rd_new wr [.int .u8 (z.toNat : Int)] 5 1 1 rfl (by decide)
      have C0 : Hid (∀ u ∈ [Value.int .u8 (z.toNat : Int)], u.oneCell' = true) := by intro u hu; simp at hu; rw [hu]; rfl
      have S0 : Hid (w.heap.size + 1 ≤ (wr.alloc (.cells #[.int .u8 (z.toNat : Int)] 5)).heap.size) := by show _ ≤ _; rw [World.size_alloc]; have := (Array.getElem?_eq_some_iff.1 HI.out.2.2).1; omega
      clear hz
      go_wp2_with (at_builtin; refine wpList_append_rd _ rfl _ _ 22 rfl (w.heap.size + 1) 5 i0 (.int .u8 0) 1 1 Tryd.underlying22 hi hz0 hz1 hz2 rfl (by decide) _ _ _ rfl O0.out _ _ _ rfl P0.out C0.out ?o3 (by decide) S0.out ?_)
      case o3 => omega
      intro v7 w7 hown7 hb7
      have HI2 : Hid (BY w w7 y v7 (k + 1)) := by
        refine HI.out.next hky hb7 ?_
        rw [← HZ.out]
        simp only [List.map_take]
        exact hown7
      obtain ⟨a7, c7, hv7, _, _⟩ := (own_rd hown7).shape
      subst hv7
      clear hown7 hb7 O0 P0 C0 S0
      go_wp2
      go_roundw
      case rel =>
        first | exact ⟨k + 1, a7, c7, by omega, by go_num, rfl, HI2⟩ | ((repeat apply Exists.intro); exact ⟨⟨k + 1, a7, c7, by omega, by go_num, rfl, HI2⟩, rfl⟩)
      case measure => simp [intOf]; omega
    · obtain rfl : k = 32 := by omega
      have V : Hid (Bs wr (.slice av 32 cv) y) := by
        have h := own_rd HI.out.1
        rw [List.take_of_length_le (by have := HYL.out; omega)] at h
        show Bs _ _ _
        unfold Bs
        rw [HYL.out]
        exact h
      have HB := Lib.hid HI.out.2.1
      clear HI
      go_wp2
      go_ret
      exact ⟨_, _, rfl, V.out, HB.out⟩
theorem eql_dec (l m : List UInt8) : (l == m) = decide (m = l) := by
  by_cases h : m = l
  · subst h; simp
  · have : l ≠ m := fun e => h e.symm
    simp [h, this]
set_option maxHeartbeats 1000000 in
theorem rderive_any (ak : Option Addr) (nk ck : Nat) (key : List UInt8) (hnk : key.length = nk) (s : ByteArray) (n : Int) (w : World)
    (hk : Bs w (.slice ak nk ck) key) (hkl : key.length < 1000000) (hs : s.size ≤ 900000) :
    Calls Tryd.prog 30 #[.slice ak nk ck, .string s, .int .i64 n] w fun e w' => ∃ a c, e = .returned (.slice a 32 c) ∧ Bs w' (.slice a 32 c) (hmacL key (labelL s.data.toList n)) ∧ Below w.heap.size w w' := by
  obtain ⟨i0, hi, hz0, hz1, hz2⟩ := info_parts info5
  have hsm : s.size ≤ maxLen := by unfold maxLen; omega
  obtain ⟨c, W1, hrun, hown, hb1⟩ := string_bytes (P := Tryd.prog) Tryd.underlying9 Tryd.underlying22 Tryd.underlying5 s hsm w
  have hsd : s.data.toList.length = s.size := by simp
  have HB1 := Lib.hid hb1
  have A1 : Below W1.heap.size W1 (W1.alloc (.cells #[.int .u8 0] 5)) := (Below.refl _ _).alloc (Nat.le_refl _) _
  have E1 := Lib.hid (hown.below A1)
  have B2 := Lib.hid (hb1.trans (A1.mono hb1.size))
  have P1 : Hid (Rd (W1.alloc (.cells #[.int .u8 0] 5)) 1 (.slice (some ⟨W1.heap.size, 0, none⟩) 1 1) 1 [.int .u8 0]) := rd_new W1 [.int .u8 0] 5 1 1 rfl (by decide)
  have S1 : Hid (w.heap.size ≤ (W1.alloc (.cells #[.int .u8 0] 5)).heap.size) := B2.out.size
  have O1 : Hid (∀ u ∈ [Value.int .u8 0], u.oneCell' = true) := by intro u hu; simp at hu; rw [hu]; rfl
  have HK := Lib.hid hk
  have HNK := Lib.hid hnk
  have HSD := Lib.hid hsd
  clear hown hb1 A1 hk hnk hsm hsd
  go_enter Tryd.func30, Tryd.ntmps30
  go_wp2_with (at_builtin; refine wpList_append_c _ rfl _ _ 22 rfl w.heap.size 5 i0 (.int .u8 0) 1 Tryd.underlying22 hi hz0 hz1 hz2 rfl _ _ _ rfl E1.out _ _ _ rfl P1.out (by decide) O1.out ?o2 (by decide) S1.out ?_)
  case o2 => omega
  intro v3 w3 hown3 hb3
  have E3 := Lib.hid hown3
  have HB3 : Hid (Below w.heap.size w w3) := B2.out.trans hb3
  clear hown3 hb3 E1 P1 S1 B2
  obtain ⟨N, hN⟩ : ∃ N : Nat, N = (n % 18446744073709551616).toNat := ⟨_, rfl⟩
  have hN1 : IntKind.u64.wrap n = (N : Int) := by rw [IntKind.wrap_u64, hN]; omega
  have hN2 : n % 18446744073709551616 = (N : Int) := by omega
  have hN3 : N < 18446744073709551616 := by omega
  have HN := Lib.hid hN
  clear hN
  go_wp2_with fail
  refine (rput_yes N 8 w3 (by omega) (by omega) hN3).mono ?_
  rintro e w4 ⟨v4, rfl, hv4, hb4⟩
  have E4 := Lib.hid (E3.out.below hb4)
  have HB4 := Lib.hid (HB3.out.trans (hb4.mono HB3.out.size))
  have P4 : Hid (Rd w4 1 v4 8 ((putL N 8).map u8v)) := hv4.bs
  have S4 : Hid (w.heap.size ≤ w4.heap.size) := HB4.out.size
  clear hv4 hb4 E3
  go_wp2_with (at_builtin; refine wpList_append_c _ rfl _ _ 22 rfl w.heap.size 5 i0 (.int .u8 0) 1 Tryd.underlying22 hi hz0 hz1 hz2 rfl _ _ _ rfl E4.out _ _ _ rfl P4.out (by decide) (oneCell_u8 _) ?o3 (by decide) S4.out ?_)
  case o3 => omega
  intro v5 w5 hown5 hb5
  obtain ⟨m, hm⟩ : ∃ m, m = labelL s.data.toList n := ⟨_, rfl⟩
  have hmc : s.data.toList.map u8v ++ Value.int .u8 0 :: (putL N 8).map u8v = m.map u8v := by
    rw [hm, HN.out]
    unfold labelL
    simp [u8v]
  have hml : m.length = s.size + 9 := by rw [hm, labelL_length, HSD.out]
  rw [hmc] at hown5
  have V5 : Hid (Rd w5 1 v5 (s.size + 1 + 8) (m.map u8v)) := hown5.rd
  obtain ⟨a5, c5, hv5, _, _⟩ := V5.out.shape
  subst hv5
  have M5 : Hid (Bs w5 (.slice a5 (s.size + 1 + 8) c5) m) := by
    show Bs _ _ _
    unfold Bs
    rw [hml]
    exact V5.out
  have HB5 : Hid (Below w.heap.size w w5) := HB4.out.trans hb5
  have HM := Lib.hid hm
  obtain ⟨y, hy⟩ : ∃ y, y = hmacL key m := ⟨_, rfl⟩
  have HYL : Hid (y.length = 32) := by show _ = _; rw [hy]; exact hmacL_length _ _
  have HS := Lib.hid (rhmac_any ak nk ck key HNK.out a5 (s.size + 1 + 8) c5 m (by omega) w5 (HK.out.below HB5.out) M5.out hkl (by omega))
  rw [← hy] at HS
  have HY := Lib.hid hy
  clear hown5 hb5 E4 P4 S4 V5 M5 hm hmc hml hy
  go_wp2_with fail
  refine HS.out.mono ?_
  rintro e w6 ⟨rfl, hb6⟩
  have HB6 := Lib.hid (HB5.out.trans (hb6.mono HB5.out.size))
  clear hb6
  go_wp2_with fail
  refine (rbytes_any y HYL.out w6).mono ?_
  rintro e w7 ⟨a7, c7, rfl, hv7, hb7⟩
  have HV := Lib.hid hv7
  have HB7 := Lib.hid (HB6.out.trans (hb7.mono HB6.out.size))
  clear hv7 hb7
  go_wp2
  go_ret
  refine ⟨_, _, rfl, ?_, HB7.out⟩
  have g := HV.out
  rw [HY.out, HM.out] at g
  exact g
end Go.Proofs.YtjlacialbfhjcaaDoor
