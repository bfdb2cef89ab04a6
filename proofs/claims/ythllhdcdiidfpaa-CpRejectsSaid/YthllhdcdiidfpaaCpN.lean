/-
  The laws' example: a protocol joined and split, a packet encoded and decoded.
-/
import Derived.Test.YthllhdcdiidfpaaCpC
import Derived.Test.YthllhdcdiidfpaaCpD
import Derived.Test.YthllhdcdiidfpaaCpE
namespace Go.Proofs.Ythllhdcdiidfpaa
open Go.RowKit
set_option linter.unusedVariables false
set_option linter.unusedSimpArgs false

theorem aw1 : joinE ⟨49185, [1, 2]⟩ = 0 := by decide +kernel
theorem aw2 : joinB ⟨49185, [1, 2]⟩ = [192, 33, 1, 2] := by decide +kernel
theorem aw3 : splt [192, 33, 1, 2] = (⟨49185, [1, 2]⟩, 0) := by rw [splt_yes (by decide +kernel) (by decide +kernel) (by decide +kernel)]; rfl
theorem aw4 : cencE ⟨1, 7, [9]⟩ = 0 := by decide +kernel
theorem aw5 : cencB ⟨1, 7, [9]⟩ = [1, 7, 0, 5, 9] := by decide +kernel
theorem aw6 : cdec [1, 7, 0, 5, 9, 5] = (⟨1, 7, [9]⟩, 0) := by
  have := cdec_wire aw4 [5]
  rwa [show wireC ⟨1, 7, [9]⟩ ++ [5] = [1, 7, 0, 5, 9, 5] by decide +kernel] at this
theorem aw7 : cdec [] = (⟨0, 0, []⟩, 71) := cdec_short (by decide)

set_option maxRecDepth 20000 in
set_option maxHeartbeats 2000000 in
theorem awake_any (w : World) : Calls Try.prog 14 #[] w fun e w' => e = .returned (.bool true) ∧ Below w.heap.size w w' := by
  obtain ⟨j0, hj, hy0, hy1, hy2⟩ := info_parts info5
  have hE := (Below.refl w.heap.size w).alloc (Nat.le_refl _) (.cells #[.int .u8 1, .int .u8 2] 5)
  have HB1 := Lib.hid hE
  have hr : Rd (w.alloc (.cells #[.int .u8 1, .int .u8 2] 5)) 1 (.slice (some ⟨w.heap.size, 0, none⟩) 2 2) 2 ([1, 2].map u8v) := rd_new w ([1, 2].map u8v) 5 2 1 rfl (by decide)
  have JN := Lib.hid (join_any 49185 _ 2 2 [1, 2] rfl (w.alloc (.cells #[.int .u8 1, .int .u8 2] 5)) (Bs.of_rd hr rfl) (by decide))
  clear hE hr
  go_enter Try.func14, Try.ntmps14
  go_wp2_with fail
  refine JN.out.mono ?_
  rintro e w2 ⟨v2, rfl, hown2, hb2⟩
  rw [aw2] at hown2
  rw [aw1]
  obtain ⟨A2, L2, C2, ev, hL2, _, _⟩ := hown2.bs.sl
  obtain rfl : L2 = 4 := hL2.symm
  subst ev
  have HB2 := Lib.hid (HB1.out.trans (hb2.mono HB1.out.size))
  have HV2 := Lib.hid hown2.bs
  have SP := Lib.hid (split_any A2 4 C2 _ rfl w2 hown2.bs (by decide))
  clear hown2 hb2 JN hL2
  go_wp2_with fail
  refine SP.out.mono ?_
  rw [aw3]
  rintro e w3 ⟨A3, L3, C3, rfl, hown3, hb3⟩
  have hE := (Below.refl w3.heap.size w3).alloc (Nat.le_refl _) (.cells #[.int .i64 49185, .slice A3 L3 C3] 24)
  have HB3 := Lib.hid (HB2.out.trans ((hb3.trans (hE.mono hb3.size)).mono HB2.out.size))
  have HV3 := Lib.hid (HV2.out.below (hb3.trans (hE.mono hb3.size)))
  have HG3 : Hid ((w3.alloc (.cells #[.int .i64 49185, .slice A3 L3 C3] 24)).heap[w3.heap.size]? = some (.cells #[.int .i64 49185, .slice A3 L3 C3] 24 (0, 0))) := heap_alloc_last _ _
  clear hown3 hb3 SP hE HV2
  have hE := (Below.refl (w3.alloc (.cells #[.int .i64 49185, .slice A3 L3 C3] 24)).heap.size (w3.alloc (.cells #[.int .i64 49185, .slice A3 L3 C3] 24))).alloc (Nat.le_refl _) (.cells #[.int .u8 9] 5)
  have HB4 := Lib.hid (HB3.out.trans (hE.mono HB3.out.size))
  have HA4 := Lib.hid hE
  have hr := rd_new (w3.alloc (.cells #[.int .i64 49185, .slice A3 L3 C3] 24)) ([9].map u8v) 5 1 1 rfl (by decide)
  rw [World.size_alloc] at hr
  have EN := Lib.hid (cencode_any 1 7 _ 1 1 [9] rfl ((w3.alloc (.cells #[.int .i64 49185, .slice A3 L3 C3] 24)).alloc (.cells #[.int .u8 9] 5)) (Bs.of_rd hr rfl) (by decide))
  clear hE hr
  go_wp2_with fail
  refine EN.out.mono ?_
  rintro e w5 ⟨v5, rfl, hown5, hb5⟩
  rw [aw5] at hown5
  rw [aw4]
  obtain ⟨A5, L5, C5, ev, hL5, _, _⟩ := hown5.bs.sl
  obtain rfl : L5 = 5 := hL5.symm
  subst ev
  have hE := (Below.refl w5.heap.size w5).alloc (Nat.le_refl _) (.cells #[.int .u8 5] 5)
  have HB6 := Lib.hid (HB4.out.trans ((hb5.trans (hE.mono hb5.size)).mono HB4.out.size))
  have HA6 := Lib.hid (HA4.out.trans ((hb5.trans (hE.mono hb5.size)).mono HA4.out.size))
  have HC6 := Lib.hid ((ownC_of hown5 (by decide)).below hE)
  have HR6 : Hid (Rd (w5.alloc (.cells #[.int .u8 5] 5)) 1 (.slice (some ⟨w5.heap.size, 0, none⟩) 1 1) 1 ([5].map u8v)) := rd_new w5 ([5].map u8v) 5 1 1 rfl (by decide)
  have HZ6 : Hid (((w3.alloc (.cells #[.int .i64 49185, .slice A3 L3 C3] 24)).alloc (.cells #[.int .u8 9] 5)).heap.size ≤ (w5.alloc (.cells #[.int .u8 5] 5)).heap.size) := (hb5.trans (hE.mono hb5.size)).size
  clear hown5 hb5 hE EN hL5
  go_wp2_with (at_builtin; refine wpList_append_keep _ rfl (.tmp 29) (.tmp 30) 22 rfl ((w3.alloc (.cells #[.int .i64 49185, .slice A3 L3 C3] 24)).alloc (.cells #[.int .u8 9] 5)).heap.size 5 j0 (.int .u8 0) 1 Try.underlying22 hj hy0 hy1 hy2 rfl _ _ _ rfl HC6.out _ _ _ rfl HR6.out (by decide) (oneCell_u8 _) (by decide) (by decide) HZ6.out ?_)
  intro v7 w7 hv7 hk7 hb7
  have HB7 := Lib.hid (HB6.out.trans (hb7.mono (by have := HB4.out.size; simpa using this)))
  have HA7 := Lib.hid (HA6.out.trans (hb7.mono (by simp)))
  have HV7 := Lib.hid (HV3.out.below HA7.out)
  have HG7 := Lib.hid (heap_below HG3.out HA7.out)
  have hbs7 : Bs w7 v7 [1, 7, 0, 5, 9, 5] := Bs.of_rd hv7 rfl
  have HK7 : Hid (Bs w7 (.slice A5 5 C5) [1, 7, 0, 5, 9]) := Bs.of_rd hk7 rfl
  obtain ⟨A7, L7, C7, ev, hL7, _, _⟩ := hbs7.sl
  obtain rfl : L7 = 6 := hL7.symm
  subst ev
  have DC := Lib.hid (cdecode_any A7 6 C7 _ rfl w7 hbs7 (by decide))
  clear hv7 hk7 hb7 hbs7 hL7 HA6 HA7 HC6 HR6
  go_wp2_with fail
  refine DC.out.mono ?_
  rw [aw6]
  rintro e w8 ⟨A8, L8, C8, rfl, hown8, hb8⟩
  obtain rfl : L8 = 1 := by
    obtain ⟨_, _, _, ev, hL, _, _⟩ := hown8.bs.sl
    simp only [Value.slice.injEq] at ev
    rw [ev.2.1]; exact hL.symm
  have hE := (Below.refl w8.heap.size w8).alloc (Nat.le_refl _) (.cells #[.int .i64 1, .int .i64 7, .slice A8 1 C8] 39)
  have hE8 := hb8.trans (hE.mono hb8.size)
  have HB8 := Lib.hid (HB7.out.trans (hE8.mono HB7.out.size))
  have HV8 := Lib.hid (HV7.out.below hE8)
  have HG8 := Lib.hid (heap_below HG7.out hE8)
  have HK8 := Lib.hid (HK7.out.below hE8)
  have HD8 : Hid ((w8.alloc (.cells #[.int .i64 1, .int .i64 7, .slice A8 1 C8] 39)).heap[w8.heap.size]? = some (.cells #[.int .i64 1, .int .i64 7, .slice A8 1 C8] 39 (0, 0))) := heap_alloc_last _ _
  have DN := Lib.hid (cdecode_any none 0 0 [] rfl (w8.alloc (.cells #[.int .i64 1, .int .i64 7, .slice A8 1 C8] 39)) (Bs.nil _) (by decide))
  clear hown8 hb8 hE hE8 DC HV7 HG7 HK7
  go_wp2_with fail
  refine DN.out.mono ?_
  rw [aw7]
  rintro e w9 ⟨A9, L9, C9, rfl, hown9, hb9⟩
  have hE := (Below.refl w9.heap.size w9).alloc (Nat.le_refl _) (.cells #[.int .i64 0, .int .i64 0, .slice A9 L9 C9] 39)
  have hE9 := hb9.trans (hE.mono hb9.size)
  have HB9 := Lib.hid (HB8.out.trans (hE9.mono HB8.out.size))
  have HG9 := Lib.hid (heap_below HG8.out hE9)
  have HD9 := Lib.hid (heap_below HD8.out hE9)
  have s1 := run_string_of (P := Try.prog) 22 9 5 Try.underlying22 Try.underlying5 Try.underlying9 (HV8.out.below hE9)
  have s2 := run_string_of (P := Try.prog) 22 9 5 Try.underlying22 Try.underlying5 Try.underlying9 (HK8.out.below hE9)
  obtain ⟨k0, k1⟩ := cells2 HG9.out
  obtain ⟨q0, q1, q2⟩ := cells3 HD9.out
  clear hown9 hb9 hE hE9 DN
  go_wp2
  go_ret
  exact ⟨rfl, HB9.out⟩
end Go.Proofs.Ythllhdcdiidfpaa
