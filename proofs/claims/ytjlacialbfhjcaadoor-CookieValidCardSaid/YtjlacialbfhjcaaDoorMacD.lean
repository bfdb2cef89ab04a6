/-
  hmac.Check, hmac.Derive.
-/
import Derived.Test.YtjlacialbfhjcaaDoorMacC
import Derived.Test.YtjlacialbfhjcaaDoorOwnC
namespace Go.Proofs.YtjlacialbfhjcaaDoor
open Go.RowKit
set_option linter.unusedVariables false
set_option linter.unusedSimpArgs false

theorem derive_any (ak : Option Addr) (nk ck : Nat) (key : List UInt8) (hnk : key.length = nk) (s : ByteArray) (n : Int) (w : World)
    (hk : Bs w (.slice ak nk ck) key) (hL : Laid w) (hkl : key.length < 1152921504606846976) (hs : s.size ≤ 1000000) :
    Calls Tryd.prog 26 #[.slice ak nk ck, .string s, .int .i64 n] w fun e w' => ∃ g, e = .returned (.slice (some ⟨g, 0, none⟩) 32 32) ∧ Bs w' (.slice (some ⟨g, 0, none⟩) 32 32) (hmacL key (labelL s.data.toList n)) ∧ Below w.heap.size w w' := by
  obtain ⟨i0, hi, hz0, hz1, hz2⟩ := info_parts info5
  have hsm : s.size ≤ maxLen := by unfold maxLen; omega
  obtain ⟨c, W1, hrun, hown, hb1⟩ := string_bytes (P := Tryd.prog) Tryd.underlying9 Tryd.underlying22 Tryd.underlying5 s hsm w
  have hsd : s.data.toList.length = s.size := by simp
  have HB1 := Lib.hid hb1
  have A1 : Below W1.heap.size W1 (W1.alloc (.cells #[.int .u8 0] 5)) := (Below.refl _ _).alloc (Nat.le_refl _) _
  have E1 := Lib.hid (hown.below A1)
  have B2 := Lib.hid (hb1.trans (A1.mono hb1.size))
  have P1 : Hid (Rd (W1.alloc (.cells #[.int .u8 0] 5)) 1 (.slice (some ⟨W1.heap.size, 0, none⟩) 1 1) 1 [.int .u8 0]) := rd_new W1 [.int .u8 0] 5 1 1 rfl (by decide)
  have S1 : Hid (w.heap.size ≤ (W1.alloc (.cells #[.int .u8 0] 5)).heap.size) := B2.out.size
  have O1 : Hid (∀ u ∈ [Value.int .u8 0], u.oneCell' = true) := by intro u hu; simp at hu; rw [hu]; rfl
  have HK := Lib.hid hk
  have HNK := Lib.hid hnk
  have HLD := Lib.hid hL
  have HSD := Lib.hid hsd
  clear hown hb1 A1 hk hnk hL hsm hsd
  go_enter Tryd.func26, Tryd.ntmps26
  go_wp2_with (at_builtin; refine wpList_append_c _ rfl _ _ 22 rfl w.heap.size 5 i0 (.int .u8 0) 1 Tryd.underlying22 hi hz0 hz1 hz2 rfl _ _ _ rfl E1.out _ _ _ rfl P1.out (by decide) O1.out ?o2 (by decide) S1.out ?_)
  case o2 => omega
  intro v3 w3 hown3 hb3
  have E3 := Lib.hid hown3
  have HB3 : Hid (Below w.heap.size w w3) := B2.out.trans hb3
  clear hown3 hb3 E1 P1 S1 B2
  obtain ⟨N, hN⟩ : ∃ N : Nat, N = (n % 18446744073709551616).toNat := ⟨_, rfl⟩
  have hN1 : IntKind.u64.wrap n = (N : Int) := by rw [IntKind.wrap_u64, hN]; omega
  have hN2 : n % 18446744073709551616 = (N : Int) := by omega
  have hN3 : N < 18446744073709551616 := by omega
  have HN := Lib.hid hN
  clear hN
  go_wp2_with fail
  refine (put_yes N 8 w3 (by omega) (by omega) hN3).mono ?_
  rintro e w4 ⟨v4, rfl, hv4, hb4⟩
  have E4 := Lib.hid (E3.out.below hb4)
  have HB4 := Lib.hid (HB3.out.trans (hb4.mono HB3.out.size))
  have P4 : Hid (Rd w4 1 v4 8 ((putL N 8).map u8v)) := hv4.bs
  have S4 : Hid (w.heap.size ≤ w4.heap.size) := HB4.out.size
  clear hv4 hb4 E3
  go_wp2_with (at_builtin; refine wpList_append_c _ rfl _ _ 22 rfl w.heap.size 5 i0 (.int .u8 0) 1 Tryd.underlying22 hi hz0 hz1 hz2 rfl _ _ _ rfl E4.out _ _ _ rfl P4.out (by decide) (oneCell_u8 _) ?o3 (by decide) S4.out ?_)
  case o3 => omega
  intro v5 w5 hown5 hb5
  obtain ⟨m, hm⟩ : ∃ m, m = labelL s.data.toList n := ⟨_, rfl⟩
  have hmc : s.data.toList.map u8v ++ Value.int .u8 0 :: (putL N 8).map u8v = m.map u8v := by
    rw [hm, HN.out]
    unfold labelL
    simp [u8v]
  have hml : m.length = s.size + 9 := by rw [hm, labelL_length, HSD.out]
  rw [hmc] at hown5
  have V5 : Hid (Rd w5 1 v5 (s.size + 1 + 8) (m.map u8v)) := hown5.rd
  obtain ⟨a5, c5, hv5, _, _⟩ := V5.out.shape
  subst hv5
  have M5 : Hid (Bs w5 (.slice a5 (s.size + 1 + 8) c5) m) := by
    show Bs _ _ _
    unfold Bs
    rw [hml]
    exact V5.out
  have HB5 : Hid (Below w.heap.size w w5) := HB4.out.trans hb5
  have HM := Lib.hid hm
  obtain ⟨y, hy⟩ : ∃ y, y = hmacL key m := ⟨_, rfl⟩
  have HYL : Hid (y.length = 32) := by show _ = _; rw [hy]; exact hmacL_length _ _
  have HS := Lib.hid (hmac_any ak nk ck key HNK.out a5 (s.size + 1 + 8) c5 m (by omega) w5 (HK.out.below HB5.out) M5.out (HLD.out.below HB5.out) hkl (by omega))
  rw [← hy] at HS
  have HY := Lib.hid hy
  have hsl2 : ∀ (g : Nat) w', (Instr.sliceAt 56 (.pointer (some ⟨g, 0, none⟩)) none none none).run Tryd.prog w' = .ok (.slice (some ⟨g, 0, none⟩) 32 32) w' := fun g w' => by
    rw [run_sliceAt_array_all w' 56 ⟨g, 0, none⟩ (by kernel_rfl)]; rfl
  clear hown5 hb5 E4 P4 S4 V5 M5 hm hmc hml hy
  go_wp2_with fail
  refine HS.out.mono ?_
  rintro e w6 ⟨rfl, hb6⟩
  have HB6 := Lib.hid (HB5.out.trans (hb6.mono HB5.out.size))
  clear hb6
  go_wp2_with (with_reducible refine wpList_store_row rfl 56 (.tmp 8) (.tmp 20) rfl w6.heap.size _ rfl rfl 56 z32 (heap_alloc_last _ _) ?a1 ?a2 ?a3 ?_)
  case a1 => exact size32l _ HYL.out
  case a2 => show z32.size = (y.map u8v).length; rw [List.length_map, HYL.out]; rfl
  case a3 => exact all_oneCell_toArray (oneCell_u8 _)
  intro w7 h1 h2 _
  have HB7 := Lib.hid (h2 _ _ HB6.out.size (HB6.out.alloc HB6.out.size _))
  have HV : Hid (Bs w7 (.slice (some ⟨w6.heap.size, 0, none⟩) 32 32) y) := by
    show Bs _ _ _
    unfold Bs
    rw [HYL.out]
    exact rd_row (cs := y.map u8v) h1 32 (by rw [List.length_map]; exact HYL.out) (by decide)
  clear h1 h2
  go_wp2
  go_ret
  refine ⟨_, rfl, ?_, HB7.out⟩
  have g := HV.out
  rw [HY.out, HM.out] at g
  exact g
end Go.Proofs.YtjlacialbfhjcaaDoor
