/-
  ether.Encode, whatever comes.
-/
import Derived.Test.YtkalbchcgdnciaaEthA
import Derived.Test.YtkalbchcgdnciaaOnly
namespace Go.Proofs.Ytkalbchcgdnciaa
open Go.RowKit
set_option linter.unusedVariables false
set_option linter.unusedSimpArgs false

/-- What is encoded: the frame's bytes, or nothing. -/
def encL (D S : List UInt8) (t : Int) (l : List UInt8) : List UInt8 := if chk t l.length = 0 then wireL D S t.toNat l else []
theorem size26 : (Try.prog.info? 26).map (·.size) = some 14 := by kernel_rfl
theorem size26l {D S : List UInt8} (t : Int) (v : Value) (hD : D.length = 6) (hS : S.length = 6) : (Try.prog.info? 26).map (·.size) = some (ethL D S t v).toArray.size := by rw [List.size_toArray, ethL_length t v hD hS]; exact size26
theorem sl23 (g o : Nat) (w' : World) : (Instr.sliceAt 23 (.pointer (some ⟨g, o, none⟩)) none none none).run Try.prog w' = .ok (.slice (some ⟨g, o, none⟩) 6 6) w' := by
  rw [run_sliceAt_array_all w' 23 ⟨g, o, none⟩ (by kernel_rfl)]; rfl
/-- A row's middle, read as a slice. -/
theorem rd_mid {w : World} {g o : Nat} {cs xs : List Value} {t : TypeId} {fr : Nat × Nat} (h : w.heap[g]? = some (.cells cs.toArray t fr)) (n : Nat) (hn : xs.length = n) (hm : n ≤ maxLen) (hx : ∀ j u, xs[j]? = some u → cs[o + j]? = some u) : Rd w 1 (.slice (some ⟨g, o, none⟩) n n) n xs := by
  refine ⟨by omega, _, n, rfl, Nat.le_refl _, hm, (fun h => by cases h), fun ad had j u hu => ?_⟩
  obtain rfl := Option.some.inj had
  rw [Addr.add_lit, cell_of_row _ _ _ _ _ _ h]
  simpa using hx j u hu
theorem rd_D {w : World} {g : Nat} {D S : List UInt8} {t : Int} {v : Value} {T : TypeId} {fr : Nat × Nat} (hD : D.length = 6) (h : w.heap[g]? = some (.cells (ethL D S t v).toArray T fr)) : Rd w 1 (.slice (some ⟨g, 0, none⟩) 6 6) 6 (D.map u8v) :=
  rd_mid h 6 (by simpa using hD) (by decide) (ethL_D t v)
theorem rd_S {w : World} {g : Nat} {D S : List UInt8} {t : Int} {v : Value} {T : TypeId} {fr : Nat × Nat} (hD : D.length = 6) (hS : S.length = 6) (h : w.heap[g]? = some (.cells (ethL D S t v).toArray T fr)) : Rd w 1 (.slice (some ⟨g, 6, none⟩) 6 6) 6 (S.map u8v) :=
  rd_mid h 6 (by simpa using hS) (by decide) (ethL_S t v hD)
theorem cell12 {w : World} {g : Nat} {D S : List UInt8} {t : Int} {v : Value} {T : TypeId} {fr : Nat × Nat} (hD : D.length = 6) (hS : S.length = 6) (h : w.heap[g]? = some (.cells (ethL D S t v).toArray T fr)) : w.cell? ⟨g, 12, none⟩ = some (.int .i64 t) := by
  rw [cell_of_row _ _ _ _ _ _ h]; simpa using ethL_12 t v hD hS
theorem cell13 {w : World} {g : Nat} {D S : List UInt8} {t : Int} {v : Value} {T : TypeId} {fr : Nat × Nat} (hD : D.length = 6) (hS : S.length = 6) (h : w.heap[g]? = some (.cells (ethL D S t v).toArray T fr)) : w.cell? ⟨g, 13, none⟩ = some v := by
  rw [cell_of_row _ _ _ _ _ _ h]; simpa using ethL_13 t v hD hS
/-- What Encode hands back. -/
def EncR (D S : List UInt8) (t : Int) (l : List UInt8) (w : World) (e : Ending) (w' : World) : Prop :=
  ∃ v, e = .returned (.tuple #[v, .int .i64 (chk t l.length)]) ∧ OwnB w' w.heap.size 5 v (encL D S t l) ∧ Below w.heap.size w w'
theorem EncR.none {D S : List UInt8} {t : Int} {l : List UInt8} {w w' : World} {v : Value} {k : Int} (hk : k = chk t l.length) (h : chk t l.length ≠ 0) (hv : v = .slice none 0 0) (hb : Below w.heap.size w w') : EncR D S t l w (.returned (.tuple #[v, .int .i64 k])) w' := by
  subst hk hv
  refine ⟨_, rfl, ?_, hb⟩
  unfold encL
  rw [if_neg h]
  exact OwnB.nil _ _ _
theorem EncR.some {D S : List UInt8} {t : Int} {l : List UInt8} {w w' : World} {v : Value} {k : Int} (hk : k = chk t l.length) (h : chk t l.length = 0) (hv : OwnB w' w.heap.size 5 v (wireL D S t.toNat l)) (hb : Below w.heap.size w w') : EncR D S t l w (.returned (.tuple #[v, .int .i64 k])) w' := by
  subst hk
  refine ⟨_, rfl, ?_, hb⟩
  unfold encL
  rw [if_pos h]
  exact hv

set_option maxHeartbeats 1000000 in
theorem encode_any (D S : List UInt8) (t : Int) (a : Option Addr) (n c : Nat) (l : List UInt8) (hD : D.length = 6) (hS : S.length = 6) (hn : l.length = n) (w : World) (hb : Bs w (.slice a n c) l) :
    Calls Try.prog 10 #[.agg (ethL D S t (.slice a n c)).toArray] w (EncR D S t l w) := by
  obtain ⟨i0, hi, hz0, hz1, hz2⟩ := info_parts info5
  obtain ⟨_, _, es0, hc0, hm0⟩ := hb.shape
  simp only [Value.slice.injEq] at es0
  obtain ⟨rfl, z0, rfl⟩ := es0
  clear z0
  have HN := Lib.hid hn
  have HD := Lib.hid hD
  have HS := Lib.hid hS
  have hm : n ≤ maxLen := by omega
  have HM := Lib.hid hm
  have BA : Below w.heap.size w (w.alloc (.cells (ethL D S t (.slice a n c)).toArray 26)) := (Below.refl _ _).alloc (Nat.le_refl _) _
  have HBA := Lib.hid BA
  have HV0 := Lib.hid hb
  have HG : Hid ((w.alloc (.cells (ethL D S t (.slice a n c)).toArray 26)).heap[w.heap.size]? = some (.cells (ethL D S t (.slice a n c)).toArray 26 (0, 0))) := heap_alloc_last _ _
  have HSZ := Lib.hid (size26l t (.slice a n c) hD hS)
  have hsl := sl23
  clear hb BA hn hD hS hm hc0 hm0
  go_enter Try.func10, Try.ntmps10
  go_wp2_with (with_reducible refine wpList_load_row rfl 26 (.tmp 1) rfl w.heap.size rfl 26 _ (0, 0) _ HG.out Try.underlying26 rfl HSZ.out ?_)
  generalize w.alloc (.cells (ethL D S t (.slice a n c)).toArray 26) = w1 at HBA HG ⊢
  refine (check_any D S t a n c HD.out HS.out HM.out w1).mono ?_
  rintro e w2 ⟨rfl, hb2⟩
  have HB2 := Lib.hid (HBA.out.trans (hb2.mono HBA.out.size))
  have HG2 := Lib.hid (heap_below HG.out hb2)
  clear hb2
  obtain ⟨k, hk⟩ : ∃ k, k = chk t n := ⟨_, rfl⟩
  have HK : Hid (k = chk t l.length) := by show _ = _; rw [HN.out]; exact hk
  rw [← hk]
  clear hk
  by_cases h0 : k = 0
  · have HK0 : Hid (chk t l.length = 0) := by show _ = _; rw [← HK.out]; exact h0
    subst h0
    have hz := chk_zero HK0.out
    rw [HN.out] at hz
    obtain ⟨ht1, ht2, hn15⟩ := hz
    have c13 := cell13 HD.out HS.out HG2.out
    have hcap : (14 : Int) + (n : Int) = ((14 + n : Nat) : Int) := by omega
    have HC := Lib.hid hcap
    have hs2 : w.heap.size + 1 ≤ w2.heap.size := (Array.getElem?_eq_some_iff.1 HG2.out).1
    have HS2 := Lib.hid hs2
    clear hcap hs2
    go_wp2_with (refine wpList_make_cap _ rfl _ _ 24 rfl (w.heap.size + 1) 5 i0 (.int .u8 0) Try.underlying24 hi hz0 hz1 rfl _ _ _ _ 0 (14 + n) rfl rfl rfl HC.out ?a3 ?a4 ?a5 HS2.out ?_)
    case a3 => omega
    case a4 => rw [hz2]; omega
    case a5 => unfold maxLen; omega
    intro w3 hown3 hb3
    have HB3 := Lib.hid (HB2.out.trans (hb3.mono HB2.out.size))
    have HG3 := Lib.hid (heap_below HG2.out hb3)
    have HS3 := Lib.hid (Nat.le_trans HS2.out hb3.size)
    have HO3 := Lib.hid hown3
    have RD3 := Lib.hid (rd_D HD.out HG3.out)
    clear hown3 hb3 c13
    go_wp2_with (at_builtin; refine wpList_append_rd _ rfl _ _ 24 rfl (w.heap.size + 1) 5 i0 (.int .u8 0) 1 1 Try.underlying24 hi hz0 hz1 hz2 rfl (by decide) _ _ _ rfl HO3.out _ _ _ rfl RD3.out (oneCell_u8 _) (by decide) (by decide) HS3.out ?_)
    intro v4 w4 hown4 hb4
    have HG4 : Hid (w4.heap[w.heap.size]? = some (.cells (ethL D S t (.slice a n c)).toArray 26 (0, 0))) := by
      show _ = _
      rw [hb4.block _ (by omega)]; exact HG3.out
    have HB4 := Lib.hid (HB3.out.trans (hb4.mono (by omega)))
    have HS4 := Lib.hid (Nat.le_trans HS3.out hb4.size)
    have HO4 := Lib.hid hown4
    have RS4 := Lib.hid (rd_S HD.out HS.out HG4.out)
    clear hown4 hb4
    go_wp2_with (at_builtin; refine wpList_append_rd _ rfl _ _ 24 rfl (w.heap.size + 1) 5 i0 (.int .u8 0) 1 1 Try.underlying24 hi hz0 hz1 hz2 rfl (by decide) _ _ _ rfl HO4.out _ _ _ rfl RS4.out (oneCell_u8 _) (by decide) (by decide) HS4.out ?_)
    intro v5 w5 hown5 hb5
    have HG5 : Hid (w5.heap[w.heap.size]? = some (.cells (ethL D S t (.slice a n c)).toArray 26 (0, 0))) := by
      show _ = _
      rw [hb5.block _ (by omega)]; exact HG4.out
    have HB5 := Lib.hid (HB4.out.trans (hb5.mono (by omega)))
    have HS5 := Lib.hid (Nat.le_trans HS4.out hb5.size)
    have HO5 := Lib.hid hown5
    have c12 := cell12 HD.out HS.out HG5.out
    obtain ⟨m, rfl⟩ : ∃ m : Nat, t = (m : Int) := ⟨t.toNat, by omega⟩
    have ht3 : m < 18446744073709551616 := by omega
    clear hown5 hb5
    go_wp2_with fail
    refine (put_yes m 2 w5 (by decide) (by decide) ht3).mono ?_
    rintro e w6 ⟨v6, rfl, hown6, hb6⟩
    have hw5 := HS5.out
    have HG6 : Hid (w6.heap[w.heap.size]? = some (.cells (ethL D S (m : Int) (.slice a n c)).toArray 26 (0, 0))) := heap_below HG5.out hb6
    have HB6 := Lib.hid (HB5.out.trans (hb6.mono HB5.out.size))
    have HS6 := Lib.hid (Nat.le_trans HS5.out hb6.size)
    have HO6 := Lib.hid (ownsRow_below HO5.out hb6)
    have RP6 : Hid (Rd w6 1 v6 2 ((putL m 2).map u8v)) := hown6.bs
    clear hown6 hb6 hw5 c12 ht3
    go_wp2_with (at_builtin; refine wpList_append_rd _ rfl _ _ 24 rfl (w.heap.size + 1) 5 i0 (.int .u8 0) 1 1 Try.underlying24 hi hz0 hz1 hz2 rfl (by decide) _ _ _ rfl HO6.out _ _ _ rfl RP6.out (oneCell_u8 _) (by decide) (by decide) HS6.out ?_)
    intro v7 w7 hown7 hb7
    have HG7 : Hid (w7.heap[w.heap.size]? = some (.cells (ethL D S (m : Int) (.slice a n c)).toArray 26 (0, 0))) := by
      show _ = _
      rw [hb7.block _ (by omega)]; exact HG6.out
    have HB7 := Lib.hid (HB6.out.trans (hb7.mono (by omega)))
    have HS7 := Lib.hid (Nat.le_trans HS6.out hb7.size)
    have HO7 := Lib.hid hown7
    have c13 := cell13 HD.out HS.out HG7.out
    have HV7 : Hid (Rd w7 1 (.slice a n c) n (l.map u8v)) := by
      have := HV0.out.below HB7.out
      unfold Bs at this
      rw [HN.out] at this
      exact this
    clear hown7 hb7
    go_wp2_with (at_builtin; refine wpList_append_rd _ rfl _ _ 24 rfl (w.heap.size + 1) 5 i0 (.int .u8 0) 1 1 Try.underlying24 hi hz0 hz1 hz2 rfl (by decide) _ _ _ rfl HO7.out _ _ _ rfl HV7.out (oneCell_u8 _) ?o2 (by decide) HS7.out ?_)
    case o2 => omega
    intro v8 w8 hown8 hb8
    have HB8 := Lib.hid (HB7.out.trans (hb8.mono (by omega)))
    go_wp2
    go_ret2
    have HO8 : OwnB w8 w.heap.size 5 v8 (wireL D S (m : Int).toNat l) := by
      unfold OwnB
      rw [wireL_length _ _ HD.out HS.out, HN.out]
      have e1 : (D.map u8v ++ (S.map u8v ++ ((putL m 2).map u8v ++ l.map u8v))) = (wireL D S (m : Int).toNat l).map u8v := by simp [wireL]
      rw [← e1]
      exact ownsRow_mono hown8 (Nat.le_succ w.heap.size)
    exact EncR.some HK.out HK0.out HO8 HB8.out
  · have hne : (k != 0) = true := by simpa using h0
    have HK0 : Hid (chk t l.length ≠ 0) := by show _ ≠ _; rw [← HK.out]; exact h0
    clear h0
    go_wp2
    go_ret2
    exact EncR.none HK.out HK0.out rfl HB2.out
end Go.Proofs.Ytkalbchcgdnciaa
