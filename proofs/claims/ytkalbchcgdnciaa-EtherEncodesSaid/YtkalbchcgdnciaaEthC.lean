/-
  The document's Encode, whatever comes.
-/
import Derived.Test.YtkalbchcgdnciaaEthB
namespace Go.Proofs.Ytkalbchcgdnciaa
open Go.RowKit
set_option linter.unusedVariables false
set_option linter.unusedSimpArgs false

set_option maxHeartbeats 1000000 in
theorem rencode_any (D S : List UInt8) (t : Int) (a : Option Addr) (n c : Nat) (l : List UInt8) (hD : D.length = 6) (hS : S.length = 6) (hn : l.length = n) (w : World) (hb : Bs w (.slice a n c) l) :
    Calls Try.prog 11 #[.agg (ethL D S t (.slice a n c)).toArray] w (EncR D S t l w) := by
  obtain ⟨i0, hi, hz0, hz1, hz2⟩ := info_parts info5
  obtain ⟨_, _, es0, hc0, hm0⟩ := hb.shape
  simp only [Value.slice.injEq] at es0
  obtain ⟨rfl, z0, rfl⟩ := es0
  clear z0
  have HN := Lib.hid hn
  have HD := Lib.hid hD
  have HS := Lib.hid hS
  have hm : n ≤ maxLen := by omega
  have HM := Lib.hid hm
  have BA : Below w.heap.size w (w.alloc (.cells (ethL D S t (.slice a n c)).toArray 26)) := (Below.refl _ _).alloc (Nat.le_refl _) _
  have HBA := Lib.hid BA
  have HV0 := Lib.hid hb
  have HG : Hid ((w.alloc (.cells (ethL D S t (.slice a n c)).toArray 26)).heap[w.heap.size]? = some (.cells (ethL D S t (.slice a n c)).toArray 26 (0, 0))) := heap_alloc_last _ _
  have HSZ := Lib.hid (size26l t (.slice a n c) hD hS)
  have hsl := sl23
  clear hb BA hn hD hS hm hc0 hm0
  go_enter Try.func11, Try.ntmps11
  go_wp2_with (with_reducible refine wpList_load_row rfl 26 (.tmp 1) rfl w.heap.size rfl 26 _ (0, 0) _ HG.out Try.underlying26 rfl HSZ.out ?_)
  generalize w.alloc (.cells (ethL D S t (.slice a n c)).toArray 26) = w1 at HBA HG ⊢
  refine (rcheck_any D S t a n c HD.out HS.out HM.out w1).mono ?_
  rintro e w2 ⟨rfl, hb2⟩
  have HB2 := Lib.hid (HBA.out.trans (hb2.mono HBA.out.size))
  have HG2 := Lib.hid (heap_below HG.out hb2)
  clear hb2
  obtain ⟨k, hk⟩ : ∃ k, k = chk t n := ⟨_, rfl⟩
  have HK : Hid (k = chk t l.length) := by show _ = _; rw [HN.out]; exact hk
  rw [← hk]
  clear hk
  by_cases h0 : k = 0
  · have HK0 : Hid (chk t l.length = 0) := by show _ = _; rw [← HK.out]; exact h0
    subst h0
    have hz := chk_zero HK0.out
    rw [HN.out] at hz
    obtain ⟨ht1, ht2, hn15⟩ := hz
    have c13 := cell13 HD.out HS.out HG2.out
    have hs2 : w.heap.size + 1 ≤ w2.heap.size := (Array.getElem?_eq_some_iff.1 HG2.out).1
    have hb3 := (Below.refl w2.heap.size w2).alloc (Nat.le_refl _) (.cells #[] 5)
    have HB3 := Lib.hid (HB2.out.trans (hb3.mono HB2.out.size))
    have HG3 := Lib.hid (heap_below HG2.out hb3)
    have HS3 := Lib.hid (Nat.le_trans hs2 hb3.size)
    have HO3 : Hid ((w2.alloc (.cells #[] 5)).ownsRow (w.heap.size + 1) 5 1 (.slice (some ⟨w2.heap.size, 0, none⟩) 0 0) 0 []) := World.ownsRow_made _ _ _ hs2 (Nat.zero_le _) rfl
    have RD3 := Lib.hid (rd_D HD.out HG3.out)
    clear hb3 c13 hs2
    go_wp2_with (at_builtin; refine wpList_append_rd _ rfl _ _ 24 rfl (w.heap.size + 1) 5 i0 (.int .u8 0) 1 1 Try.underlying24 hi hz0 hz1 hz2 rfl (by decide) _ _ _ rfl HO3.out _ _ _ rfl RD3.out (oneCell_u8 _) (by decide) (by decide) HS3.out ?_)
    intro v4 w4 hown4 hb4
    have HG4 : Hid (w4.heap[w.heap.size]? = some (.cells (ethL D S t (.slice a n c)).toArray 26 (0, 0))) := by
      show _ = _
      rw [hb4.block _ (by omega)]; exact HG3.out
    have HB4 := Lib.hid (HB3.out.trans (hb4.mono (by omega)))
    have HS4 := Lib.hid (Nat.le_trans HS3.out hb4.size)
    have HO4 := Lib.hid hown4
    have RS4 := Lib.hid (rd_S HD.out HS.out HG4.out)
    clear hown4 hb4
    go_wp2_with (at_builtin; refine wpList_append_rd _ rfl _ _ 24 rfl (w.heap.size + 1) 5 i0 (.int .u8 0) 1 1 Try.underlying24 hi hz0 hz1 hz2 rfl (by decide) _ _ _ rfl HO4.out _ _ _ rfl RS4.out (oneCell_u8 _) (by decide) (by decide) HS4.out ?_)
    intro v5 w5 hown5 hb5
    have HG5 : Hid (w5.heap[w.heap.size]? = some (.cells (ethL D S t (.slice a n c)).toArray 26 (0, 0))) := by
      show _ = _
      rw [hb5.block _ (by omega)]; exact HG4.out
    have HB5 := Lib.hid (HB4.out.trans (hb5.mono (by omega)))
    have HS5 := Lib.hid (Nat.le_trans HS4.out hb5.size)
    have HO5 := Lib.hid hown5
    have c12 := cell12 HD.out HS.out HG5.out
    obtain ⟨m, rfl⟩ : ∃ m : Nat, t = (m : Int) := ⟨t.toNat, by omega⟩
    have hb6 := (Below.refl w5.heap.size w5).alloc (Nat.le_refl _) (.cells #[.int .u8 ((m : Int) / 256), .int .u8 ((m : Int) % 256)] 5)
    have hw5 := HS5.out
    have HG6 := Lib.hid (heap_below HG5.out hb6)
    have HB6 := Lib.hid (HB5.out.trans (hb6.mono HB5.out.size))
    have HS6 := Lib.hid (Nat.le_trans HS5.out hb6.size)
    have HO6 := Lib.hid (ownsRow_below HO5.out hb6)
    have e2 : [Value.int .u8 ((m : Int) / 256), .int .u8 ((m : Int) % 256)] = (putL m 2).map u8v := by rw [putL_two, show ((m : Int) / 256) = ((m / 256 % 256 : Nat) : Int) by omega, show ((m : Int) % 256) = ((m % 256 : Nat) : Int) by omega]; simp only [List.map_cons, List.map_nil, u8v_ofNat]
    have RP6 : Hid (Rd (w5.alloc (.cells #[.int .u8 ((m : Int) / 256), .int .u8 ((m : Int) % 256)] 5)) 1 (.slice (some ⟨w5.heap.size, 0, none⟩) 2 2) 2 ((putL m 2).map u8v)) := by
      rw [← e2]
      exact rd_new w5 _ 5 2 1 rfl (by decide)
    clear hown5 hb5 hb6 hw5 e2
    go_wp2_with (at_builtin; refine wpList_append_rd _ rfl _ _ 24 rfl (w.heap.size + 1) 5 i0 (.int .u8 0) 1 1 Try.underlying24 hi hz0 hz1 hz2 rfl (by decide) _ _ _ rfl HO6.out _ _ _ rfl RP6.out (oneCell_u8 _) (by decide) (by decide) HS6.out ?_)
    intro v7 w7 hown7 hb7
    have HG7 : Hid (w7.heap[w.heap.size]? = some (.cells (ethL D S (m : Int) (.slice a n c)).toArray 26 (0, 0))) := by
      show _ = _
      rw [hb7.block _ (by omega)]; exact HG6.out
    have HB7 := Lib.hid (HB6.out.trans (hb7.mono (by omega)))
    have HS7 := Lib.hid (Nat.le_trans HS6.out hb7.size)
    have HO7 := Lib.hid hown7
    have c13 := cell13 HD.out HS.out HG7.out
    have HV7 : Hid (Rd w7 1 (.slice a n c) n (l.map u8v)) := by
      have := HV0.out.below HB7.out
      unfold Bs at this
      rw [HN.out] at this
      exact this
    clear hown7 hb7
    go_wp2_with (at_builtin; refine wpList_append_rd _ rfl _ _ 24 rfl (w.heap.size + 1) 5 i0 (.int .u8 0) 1 1 Try.underlying24 hi hz0 hz1 hz2 rfl (by decide) _ _ _ rfl HO7.out _ _ _ rfl HV7.out (oneCell_u8 _) ?o2 (by decide) HS7.out ?_)
    case o2 => omega
    intro v8 w8 hown8 hb8
    have HB8 := Lib.hid (HB7.out.trans (hb8.mono (by omega)))
    go_wp2
    go_ret2
    have HO8 : OwnB w8 w.heap.size 5 v8 (wireL D S (m : Int).toNat l) := by
      unfold OwnB
      rw [wireL_length _ _ HD.out HS.out, HN.out]
      have e1 : (D.map u8v ++ (S.map u8v ++ ((putL m 2).map u8v ++ l.map u8v))) = (wireL D S (m : Int).toNat l).map u8v := by simp [wireL]
      rw [← e1]
      exact ownsRow_mono hown8 (Nat.le_succ w.heap.size)
    exact EncR.some HK.out HK0.out HO8 HB8.out
  · have hne : (k != 0) = true := by simpa using h0
    have HK0 : Hid (chk t l.length ≠ 0) := by show _ ≠ _; rw [← HK.out]; exact h0
    clear h0
    go_wp2
    go_ret2
    exact EncR.none HK.out HK0.out rfl HB2.out
end Go.Proofs.Ytkalbchcgdnciaa
