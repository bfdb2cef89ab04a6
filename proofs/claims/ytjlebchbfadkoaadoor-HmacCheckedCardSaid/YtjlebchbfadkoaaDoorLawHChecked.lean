/-
  For every key and message (slices of bytes: their first 600 bytes) what hmac.Sum makes is checked; nothing of another length is, and nothing in which a byte is another (conciergelaw03.HmacChecked answers true). The listed table of constants is tied to the program's text. No condition.
-/
import Derived.Test.YtjlebchbfadkoaaDoorMacU
import Derived.ProofKit
import Derived.OpenShut
import Derived.ShutString
import Derived.ChangeOld
import Derived.SevenTiedAt
namespace Go.Proofs.YtjlebchbfadkoaaDoor.hmacChecked
open Go.ChangeShapes Go.WideShapes Go.ChangeAt Go.RowKit
open Go.ChangeMaps (open_string shut_string)
set_option linter.unusedVariables false
set_option linter.unusedSimpArgs false

theorem of_len {y z : List UInt8} (h : y.length ≠ z.length) : decide (y = z) = false := by
  simp only [decide_eq_false_iff_not]
  intro e; exact h (by rw [e])
theorem turned_same (y : List UInt8) (r : Nat) (h : r < y.length) (mask : UInt8) : decide (y = y.set r (y[r] ^^^ mask)) = ((mask.toNat : Int) == 0) := by
  by_cases hm : mask.toNat = 0
  · have e : mask = 0 := UInt8.toNat_inj.1 hm
    subst e
    simp
  · have hne : ¬ y = y.set r (y[r] ^^^ mask) := fun e => by
      have e1 := congrArg (fun l => l[r]?) e
      simp only [List.getElem?_set_self h, List.getElem?_eq_getElem h, Option.some.injEq] at e1
      have e2 := congrArg UInt8.toNat e1
      rw [UInt8.toNat_xor] at e2
      have e3 : y[r].toNat ^^^ (y[r].toNat ^^^ mask.toNat) = y[r].toNat ^^^ y[r].toNat := by rw [← e2]
      rw [← Nat.xor_assoc, Nat.xor_self, Nat.zero_xor] at e3
      exact hm e3
    have h2 : ¬ ((mask.toNat : Int) = 0) := by omega
    simp only [hne, decide_false]
    exact (beq_eq_false_iff_ne.2 h2).symm
set_option maxHeartbeats 4000000 in
theorem walk (W : World) (hL : Laid W) (a0 : Option Addr) (n0 c0 : Nat) (l0 : List UInt8) (hn0 : l0.length = n0) (b0 : Bs W (.slice a0 n0 c0) l0) (a1 : Option Addr) (n1 c1 : Nat) (l1 : List UInt8) (hn1 : l1.length = n1) (b1 : Bs W (.slice a1 n1 c1) l1) (z : Int) (wz : (Lit.int .u64 z).wf = true) (q : Int) (wq : (Lit.int .u8 q).wf = true) (a4 : Option Addr) (n4 c4 : Nat) (l4 : List UInt8) (hn4 : l4.length = n4) (b4 : Bs W (.slice a4 n4 c4) l4) :
    Calls Tryd.prog 5 #[.slice a0 n0 c0, .slice a1 n1 c1, .int .u64 z, .int .u8 q, .slice a4 n4 c4] W fun e w' => e = .returned (.bool true) ∧ Below W.heap.size W w' := by
  obtain ⟨m0, x0, hm0, hx0, u0, lo0, hc0⟩ := cut_in hn0 b0
  obtain ⟨m1, x1, hm1, hx1, u1, lo1, hc1⟩ := cut_in hn1 b1
  obtain ⟨m4, x4, hm4, hx4, u4, lo4, hc4⟩ := cut_in hn4 b4
  obtain ⟨mask, rfl⟩ := u8_of_wf wq
  have hz : 0 ≤ z ∧ z ≤ 18446744073709551615 := by simpa [Lit.wf, IntKind.min, IntKind.max, IntKind.signed, IntKind.bits] using wz
  have HC0 := Lib.hid hc0
  have HC1 := Lib.hid hc1
  have HC4 := Lib.hid hc4
  have HLD := Lib.hid hL
  have HU4 := Lib.hid u4
  have HX4 := Lib.hid hx4
  have HS := Lib.hid (fun w (g : Gr W w) => hmac_any a0 m0 c0 x0 hx0 a1 m1 c1 x1 hx1 w (u0.below g) (u1.below g) (hL.below g) (by omega) (by omega))
  have HCS := Lib.hid (fun w (g : Gr W w) aq nq cq mac hnq hq => check_any a0 m0 c0 x0 hx0 a1 m1 c1 x1 hx1 aq nq cq mac hnq w (u0.below g) (u1.below g) hq (hL.below g) (by omega) (by omega))
  obtain ⟨y, hy⟩ : ∃ y, y = hmacL x0 x1 := ⟨_, rfl⟩
  have hyl : y.length = 32 := by rw [hy]; exact hmacL_length _ _
  have HYL := Lib.hid hyl
  rw [← hy] at HS HCS
  obtain ⟨i0, hi, hz0, hz1, hz2⟩ := info_parts info5
  obtain ⟨r, hr⟩ : ∃ r : Nat, r = (z % 32).toNat := ⟨_, rfl⟩
  have hr1 : z % 32 = (r : Int) := by omega
  have hr2 : r < 32 := by omega
  have hsl2 : ∀ (g : Nat) w', (Instr.sliceAt 24 (.pointer (some ⟨g, 0, none⟩)) none none none).run Tryd.prog w' = .ok (.slice (some ⟨g, 0, none⟩) 32 32) w' := fun g w' => by
    rw [run_sliceAt_array_all w' 24 ⟨g, 0, none⟩ (by kernel_rfl)]; rfl
  clear hn0 hn1 hn4 b0 b1 b4 u0 u1 u4 lo0 lo1 lo4 hc0 hc1 hc4 hx0 hx1 hx4 hL hy wz wq hyl hr
  go_enter Tryd.func5, Tryd.ntmps5
  go_wp2_with fail
  refine (HC0.out _).mono ?_
  rintro e w' ⟨rfl, rfl⟩
  go_wp2_with fail
  refine (HC1.out _).mono ?_
  rintro e w' ⟨rfl, rfl⟩
  go_wp2_with fail
  refine (HC4.out _).mono ?_
  rintro e w' ⟨rfl, rfl⟩
  go_wp2_with fail
  refine (HS.out _ (Gr.refl W)).mono ?_
  rintro e w1 ⟨rfl, hg1⟩
  have G1 : Hid (Gr W w1) := hg1
  clear hg1
  go_wp2_with (with_reducible refine wpList_store_row rfl 24 (.tmp 11) (.tmp 21) rfl w1.heap.size _ rfl rfl 24 z32 (heap_alloc_last _ _) ?a1 ?a2 ?a3 ?_)
  case a1 => exact size32l _ HYL.out
  case a2 => show z32.size = (y.map u8v).length; rw [List.length_map, HYL.out]; rfl
  case a3 => exact all_oneCell_toArray (oneCell_u8 _)
  intro w2 h1 h2 _
  have G2 : Hid (Gr W w2) := h2 _ _ (by have := G1.out.size; omega) (Gr.alloc G1.out _)
  have A2 : Hid (Below w2.heap.size w2 (w2.alloc (.cells #[] 5))) := (Below.refl _ _).alloc (Nat.le_refl _) _
  have E2 := Lib.hid (own_empty w2 5)
  have P2 : Hid (Rd (w2.alloc (.cells #[] 5)) 1 (.slice (some ⟨w1.heap.size, 0, none⟩) 32 32) 32 (y.map u8v)) := Rd.below (rd_row (cs := y.map u8v) h1 32 (by rw [List.length_map]; exact HYL.out) (by decide)) A2.out
  have S2 : Hid (w2.heap.size ≤ (w2.alloc (.cells #[] 5)).heap.size) := A2.out.size
  clear h1 h2
  go_wp2_with (at_builtin; refine wpList_append_rd _ rfl _ _ 22 rfl w2.heap.size 5 i0 (.int .u8 0) 1 1 Tryd.underlying22 hi hz0 hz1 hz2 rfl (by decide) _ 0 [] rfl E2.out _ _ _ rfl P2.out (oneCell_u8 _) ?o2 (by decide) S2.out ?_)
  case o2 => omega
  intro v3 w3 hown3 hb3
  have hown3' : w3.ownsRow w2.heap.size 5 1 v3 y.length (y.map u8v) := by rw [HYL.out]; exact hown3
  obtain ⟨g, c, hv3, hg3, hgs3, _⟩ := own_at hown3' (by rw [HYL.out]; omega)
  rw [HYL.out] at hv3
  subst hv3
  have O3 := Lib.hid hown3
  have G3 : Hid (Gr W w3) := Gr.trans G2.out (A2.out.trans hb3)
  have V3 : Hid (Bs w3 (.slice (some ⟨g, 0, none⟩) 32 c) y) := by
    show Bs _ _ _
    unfold Bs
    rw [HYL.out]
    exact own_rd hown3
  have hsw : W.heap.size ≤ g := by have := G2.out.size; omega
  clear hown3 hown3' hb3 E2 P2 S2 A2
  have HK1 := Lib.hid (HCS.out w3 G3.out (some ⟨g, 0, none⟩) 32 c y HYL.out V3.out)
  rw [show decide (y = y) = true by simp] at HK1
  go_wp2_with fail
  refine (HK1.out).mono ?_
  rintro e w4 ⟨rfl, hg4⟩
  have G4 : Hid (Gr w3 w4) := hg4
  clear hg4 HK1
  have hc32 : 32 ≤ c := by
    obtain ⟨_, _, e, h, _⟩ := V3.out.shape
    simp only [Value.slice.injEq] at e
    obtain ⟨_, _, rfl⟩ := e
    have := HYL.out
    omega
  have V4 : Hid (Bs w4 (.slice (some ⟨g, 0, none⟩) 32 c) y) := V3.out.below G4.out
  have O4 := Lib.hid (ownsRow_below O3.out G4.out)
  have GW4 : Hid (Gr W w4) := Gr.trans G3.out G4.out
  have htl : (y.take r).length = r := by rw [List.length_take]; have := HYL.out; omega
  have HK2 := Lib.hid (HCS.out w4 GW4.out (some ⟨g, 0, none⟩) r c (y.take r) htl (V4.out.upto HYL.out r (by omega)))
  rw [of_len (y := y) (z := y.take r) (by rw [htl, HYL.out]; omega)] at HK2
  clear htl
  go_wp2_with fail
  refine (HK2.out).mono ?_
  rintro e w5 ⟨rfl, hg5⟩
  have V5 : Hid (Bs w5 (.slice (some ⟨g, 0, none⟩) 32 c) y) := V4.out.below hg5
  have O5 := Lib.hid (ownsRow_below O4.out hg5)
  have GW5 : Hid (Gr W w5) := Gr.trans GW4.out hg5
  clear hg5 HK2 V3 V4 O3 O4 G3 G4 GW4 G1 G2
  by_cases hm0 : 0 < m4
  · have A5 : Hid (Below w5.heap.size w5 (w5.alloc (.cells #[] 5))) := (Below.refl _ _).alloc (Nat.le_refl _) _
    have E5 := Lib.hid (own_empty w5 5)
    have P5 : Hid (Rd (w5.alloc (.cells #[] 5)) 1 (.slice (some ⟨g, 0, none⟩) 32 c) 32 (y.map u8v)) := by
      have := V5.out.below A5.out
      unfold Bs at this
      rw [HYL.out] at this
      exact this
    have S5 : Hid (w5.heap.size ≤ (w5.alloc (.cells #[] 5)).heap.size) := A5.out.size
    go_wp2_with (at_builtin; refine wpList_append_g _ (by rfl) _ _ 22 rfl w5.heap.size 5 i0 (.int .u8 0) 1 1 Tryd.underlying22 hi hz0 hz1 hz2 rfl (by decide) _ 0 [] rfl E5.out _ _ _ rfl P5.out (by decide) (oneCell_u8 _) ?o2 (by decide) S5.out ?_)
    case o2 => omega
    intro v6 w6 hown6 hb6
    have B6 : Hid (Below w5.heap.size w5 w6) := A5.out.trans hb6
    have O6 := Lib.hid hown6
    have S6 : Hid (w5.heap.size ≤ w6.heap.size) := B6.out.size
    have P6 : Hid (Rd w6 1 (.slice a4 m4 c4) m4 (x4.map u8v)) := by
      have := HU4.out.below (Gr.trans GW5.out B6.out)
      unfold Bs at this
      rw [HX4.out] at this
      exact this
    clear hown6 hb6 E5 A5 P5 S5
    go_wp2_with (at_builtin; refine wpList_append_g _ (by rfl) _ _ 22 rfl w5.heap.size 5 i0 (.int .u8 0) 1 1 Tryd.underlying22 hi hz0 hz1 hz2 rfl (by decide) _ _ _ rfl O6.out _ _ _ rfl P6.out hm0 (oneCell_u8 _) ?p2 (by decide) S6.out ?_)
    case p2 => omega
    intro v7 w7 hown7 hb7
    obtain ⟨t, ht⟩ : ∃ t, t = y ++ x4 := ⟨_, rfl⟩
    have htl : t.length = 32 + m4 := by rw [ht, List.length_append, HYL.out, HX4.out]
    have htm : y.map u8v ++ x4.map u8v = t.map u8v := by rw [ht, List.map_append]
    rw [htm] at hown7
    have B7 : Hid (Below w5.heap.size w5 w7) := B6.out.trans hb7
    have GW7 : Hid (Gr W w7) := Gr.trans GW5.out B7.out
    obtain ⟨a7, c7, hv7, _, _⟩ := (own_rd hown7).shape
    subst hv7
    have V7 : Hid (Bs w7 (.slice a7 (32 + m4) c7) t) := by
      show Bs _ _ _
      unfold Bs
      rw [htl]
      exact own_rd hown7
    have HK3 := Lib.hid (HCS.out w7 GW7.out a7 (32 + m4) c7 t htl V7.out)
    rw [of_len (y := y) (z := t) (by rw [htl, HYL.out]; omega)] at HK3
    have O7 := Lib.hid (ownsRow_below O5.out B7.out)
    clear hown7 hb7 O6 S6 P6 ht htl htm V7 B6
    go_wp2_with fail
    refine (HK3.out).mono ?_
    rintro e wX ⟨rfl, hg8⟩
    have OX := Lib.hid (ownsRow_below O7.out hg8)
    have GX : Hid (Gr W wX) := Gr.trans GW7.out hg8
    clear hg8 HK3 O7 B7 GW7 V5 O5 GW5
    have hyr : r < y.length := by have := HYL.out; omega
    have cr0 : wX.cell? ⟨g, r, none⟩ = some (.int .u8 (y[r].toNat : Int)) := by
      rw [OX.out.cellAt r (by omega)]
      simp [hyr, u8v]
    have fr0 : wX.frozen? ⟨g, r, none⟩ = false := OX.out.frozenAt r
    have hx8 := UInt8.toNat_lt y[r]
    have hq8 := UInt8.toNat_lt mask
    have e1 := u8_xor_nat y[r].toNat mask.toNat hx8 hq8
    have hts := turned_same y r hyr mask
    obtain ⟨y', hy'⟩ : ∃ y', y' = y.set r (y[r] ^^^ mask) := ⟨_, rfl⟩
    have hyl' : y'.length = 32 := by rw [hy', List.length_set]; exact HYL.out
    rw [← hy'] at hts
    have hst := (OX.out.stored r (.int .u8 ((y[r].toNat ^^^ mask.toNat : Nat) : Int))).1
    have hset : (y.map u8v).set r (.int .u8 ((y[r].toNat ^^^ mask.toNat : Nat) : Int)) = y'.map u8v := by
      rw [hy', List.map_set]
      unfold u8v
      rw [UInt8.toNat_xor]
    rw [hset] at hst
    obtain ⟨p, hp⟩ : ∃ p, p = y[r].toNat := ⟨_, rfl⟩
    rw [← hp] at cr0 hx8 e1 hst
    obtain ⟨mq, hmq⟩ : ∃ mq, mq = mask.toNat := ⟨_, rfl⟩
    rw [← hmq] at hq8 e1 hst hts ⊢
    obtain ⟨x, hx⟩ : ∃ x, x = p ^^^ mq := ⟨_, rfl⟩
    rw [← hx] at e1 hst
    have GY : Hid (Gr W (wX.setCell ⟨g, r, none⟩ (.int .u8 (x : Int)))) := Below.setCell GX.out hsw _
    have VY : Hid (Bs (wX.setCell ⟨g, r, none⟩ (.int .u8 (x : Int))) (.slice (some ⟨g, 0, none⟩) 32 c) y') := by
      show Bs _ _ _
      unfold Bs
      rw [hyl']
      exact own_rd hst
    obtain ⟨d, hd⟩ : ∃ d, d = decide (y = y') := ⟨_, rfl⟩
    have HK4 := Lib.hid (HCS.out _ GY.out (some ⟨g, 0, none⟩) 32 c y' hyl' VY.out)
    rw [← hd] at HK4 hts
    have hts' : ((mq : Int) == 0) = d := hts.symm
    clear hst hset hy' hyl' hp hmq hx hd hts
    go_wp2_with fail
    refine (HK4.out).mono ?_
    rintro e w9 ⟨rfl, hg9⟩
    have G9 : Hid (Gr W w9) := Gr.trans GY.out hg9
    clear hg9 HK4
    have HA := Lib.hid (awake_any w9 (HLD.out.below G9.out))
    go_wp2_with (go_at_call 15; refine HA.out.mono ?_; rintro e w10 ⟨rfl, hb10⟩)
    go_ret
    exact ⟨rfl, Gr.trans G9.out hb10⟩
  · obtain rfl : m4 = 0 := by omega
    have OX := O5
    have GX := GW5
    obtain ⟨wX, hwX⟩ : ∃ wX, wX = w5 := ⟨_, rfl⟩
    rw [← hwX] at OX GX ⊢
    clear V5 O5 GW5 hwX
    have hyr : r < y.length := by have := HYL.out; omega
    have cr0 : wX.cell? ⟨g, r, none⟩ = some (.int .u8 (y[r].toNat : Int)) := by
      rw [OX.out.cellAt r (by omega)]
      simp [hyr, u8v]
    have fr0 : wX.frozen? ⟨g, r, none⟩ = false := OX.out.frozenAt r
    have hx8 := UInt8.toNat_lt y[r]
    have hq8 := UInt8.toNat_lt mask
    have e1 := u8_xor_nat y[r].toNat mask.toNat hx8 hq8
    have hts := turned_same y r hyr mask
    obtain ⟨y', hy'⟩ : ∃ y', y' = y.set r (y[r] ^^^ mask) := ⟨_, rfl⟩
    have hyl' : y'.length = 32 := by rw [hy', List.length_set]; exact HYL.out
    rw [← hy'] at hts
    have hst := (OX.out.stored r (.int .u8 ((y[r].toNat ^^^ mask.toNat : Nat) : Int))).1
    have hset : (y.map u8v).set r (.int .u8 ((y[r].toNat ^^^ mask.toNat : Nat) : Int)) = y'.map u8v := by
      rw [hy', List.map_set]
      unfold u8v
      rw [UInt8.toNat_xor]
    rw [hset] at hst
    obtain ⟨p, hp⟩ : ∃ p, p = y[r].toNat := ⟨_, rfl⟩
    rw [← hp] at cr0 hx8 e1 hst
    obtain ⟨mq, hmq⟩ : ∃ mq, mq = mask.toNat := ⟨_, rfl⟩
    rw [← hmq] at hq8 e1 hst hts ⊢
    obtain ⟨x, hx⟩ : ∃ x, x = p ^^^ mq := ⟨_, rfl⟩
    rw [← hx] at e1 hst
    have GY : Hid (Gr W (wX.setCell ⟨g, r, none⟩ (.int .u8 (x : Int)))) := Below.setCell GX.out hsw _
    have VY : Hid (Bs (wX.setCell ⟨g, r, none⟩ (.int .u8 (x : Int))) (.slice (some ⟨g, 0, none⟩) 32 c) y') := by
      show Bs _ _ _
      unfold Bs
      rw [hyl']
      exact own_rd hst
    obtain ⟨d, hd⟩ : ∃ d, d = decide (y = y') := ⟨_, rfl⟩
    have HK4 := Lib.hid (HCS.out _ GY.out (some ⟨g, 0, none⟩) 32 c y' hyl' VY.out)
    rw [← hd] at HK4 hts
    have hts' : ((mq : Int) == 0) = d := hts.symm
    clear hst hset hy' hyl' hp hmq hx hd hts
    go_wp2_with fail
    refine (HK4.out).mono ?_
    rintro e w9 ⟨rfl, hg9⟩
    have G9 : Hid (Gr W w9) := Gr.trans GY.out hg9
    clear hg9 HK4
    have HA := Lib.hid (awake_any w9 (HLD.out.below G9.out))
    go_wp2_with (go_at_call 15; refine HA.out.mono ?_; rintro e w10 ⟨rfl, hb10⟩)
    go_ret
    exact ⟨rfl, Gr.trans G9.out hb10⟩

theorem own : ownKnob Tryd.prog.godebug = none := by kernel_rfl
theorem laidOut : laidOutB Tryd.prog = true := by kernel_rfl
theorem door_met (os : Os) (args : Array Value) : laidMetH Tryd.prog Rows.hmacCheckedRow.laid ((World.doorLaid Tryd.prog 400 os).forCall (fun _ _ => 0) ⟨#[], args, []⟩).memory :=
  laidMetH_of_parts3 (fuel := 8) (laidMet_of_run' 8 (by kernel_rfl) (by kernel_rfl)) (by kernel_rfl) (by kernel_rfl)
set_option maxRecDepth 100000 in
theorem lifted (os : Os) (started : os.Started) (H : Type) (enc : TypeId × Value → H) :
    ReturnsInHanded {} Tryd.checked os 5 .any (fun w args => (Rows.hmacCheckedSpec.pre enc Tryd.prog Tryd.f5 [] false w args ∧ laidMetH Tryd.prog Rows.hmacCheckedRow.laid w) ∧ sizedMet enc Tryd.prog Tryd.f5 (OpenSpec.ofChange Rows.hmacCheckedSpec) false w args) (Rows.hmacCheckedSpec.post enc Tryd.prog Tryd.f5 false true false false) := by
  refine returnsInHanded_of_change_and (C := Tryd.checked) (X := fun w _ => laidMetH Tryd.prog Rows.hmacCheckedRow.laid w) (fun _ _ _ hh h => h.of_heap hh) own started (by kernel_rfl) Tryd.func5
    (ChangeSpec.witness_shaped (enc := enc) (C := Tryd.checked) (os := os) (X := fun w _ => laidMetH Tryd.prog Rows.hmacCheckedRow.laid w) false (World.doorLaid Tryd.prog 400 os) #[.slice none 0 0, .slice none 0 0, .int .u64 0, .int .u8 0, .slice none 0 0] 8 rfl (World.shaped_of_RefB (by kernel_rfl) (by kernel_rfl)) (by kernel_rfl) (by kernel_rfl) (by kernel_rfl) (door_met os _)) ?_
  intro W base args ds gs before hval0 hW _ _ hL _
  have hval : ∀ (j : Nat) t v, Tryd.f5.params[j]? = some t → args[j]? = some v → Value.okWide Tryd.prog W .any base t v := hval0
  have hW' := hW
  obtain ⟨p, q, hA0, hV, rfl, hfz, hnd⟩ := hW
  have hA : DataW.TrodAll enc Tryd.prog W 0 (fun _ => true) true Tryd.f5.params.toList args.toList ds p := hA0
  rw [Tryd.params5] at hA hval
  obtain ⟨v0, vs0, d0, ds0, p0, q0, hargs, rfl, rfl, h0, r0⟩ := trodAll_cons hA
  obtain ⟨v1, vs1, d1, ds1, p1, q1, rfl, rfl, rfl, h1, r1⟩ := trodAll_cons r0
  obtain ⟨v2, vs2, d2, ds2, p2, q2, rfl, rfl, rfl, h2, r2⟩ := trodAll_cons r1
  obtain ⟨v3, vs3, d3, ds3, p3, q3, rfl, rfl, rfl, h3, r3⟩ := trodAll_cons r2
  obtain ⟨v4, vs4, d4, ds4, p4, q4, rfl, rfl, rfl, h4, r4⟩ := trodAll_cons r3
  obtain ⟨rfl, rfl, rfl⟩ := trodAll_nil r4
  obtain rfl : args = #[v0, v1, v2, v3, v4] := by cases args; simp_all
  obtain ⟨rfl, rfl⟩ := trodVars_none hV
  have k0 := h0
  have lt0 : ∀ x ∈ p0, x.block < W.heap.size := by obtain ⟨m, hm⟩ := k0; exact DataW.trod_lt m _ _ _ hm
  obtain ⟨a0, n0, c0, l0, rfl, hn0, b0⟩ := open_bytes Tryd.underlying22 Tryd.underlying5 (by kernel_rfl) (hval 0 22 v0 rfl rfl) h0
  have k1 := h1
  have lt1 : ∀ x ∈ p1, x.block < W.heap.size := by obtain ⟨m, hm⟩ := k1; exact DataW.trod_lt m _ _ _ hm
  obtain ⟨a1, n1, c1, l1, rfl, hn1, b1⟩ := open_bytes Tryd.underlying22 Tryd.underlying5 (by kernel_rfl) (hval 1 22 v1 rfl rfl) h1
  have k2 := h2
  have lt2 : ∀ x ∈ p2, x.block < W.heap.size := by obtain ⟨m, hm⟩ := k2; exact DataW.trod_lt m _ _ _ hm
  obtain ⟨a2, rfl, rfl, rfl, w2⟩ := open_int Tryd.underlying37 (hval 2 37 v2 rfl rfl) h2
  have k3 := h3
  have lt3 : ∀ x ∈ p3, x.block < W.heap.size := by obtain ⟨m, hm⟩ := k3; exact DataW.trod_lt m _ _ _ hm
  obtain ⟨a3, rfl, rfl, rfl, w3⟩ := open_int Tryd.underlying5 (hval 3 5 v3 rfl rfl) h3
  have k4 := h4
  have lt4 : ∀ x ∈ p4, x.block < W.heap.size := by obtain ⟨m, hm⟩ := k4; exact DataW.trod_lt m _ _ _ hm
  obtain ⟨a4, n4, c4, l4, rfl, hn4, b4⟩ := open_bytes Tryd.underlying22 Tryd.underlying5 (by kernel_rfl) (hval 4 22 v4 rfl rfl) h4
  clear hA0 hval0
  refine (walk W (of_laid hL) a0 n0 c0 l0 hn0 b0 a1 n1 c1 l1 hn1 b1 a2 w2 a3 w3 a4 n4 c4 l4 hn4 b4).mono fun e W' ⟨he, bel⟩ => ?_
  subst he
  exact ⟨_, rfl, _, _, _, [], _, [], hW', trodAll_mk1 (shut_bool Tryd.underlying4 _), (trodAll_cons_mk (Below.trod laidOut (by kernel_rfl) (of_decide_eq_true (by kernel_rfl)) k0 bel lt0) (trodAll_cons_mk (Below.trod laidOut (by kernel_rfl) (of_decide_eq_true (by kernel_rfl)) k1 bel lt1) (trodAll_cons_mk (Below.trod laidOut (by kernel_rfl) (of_decide_eq_true (by kernel_rfl)) k2 bel lt2) (trodAll_cons_mk (Below.trod laidOut (by kernel_rfl) (of_decide_eq_true (by kernel_rfl)) k3 bel lt3) (trodAll_cons_mk (Below.trod laidOut (by kernel_rfl) (of_decide_eq_true (by kernel_rfl)) k4 bel lt4) trodAll_mk0))))), rfl, bel.frame _, fun h => by cases h⟩
theorem over : Rows.hmacCheckedRow.holds Tryd.pinned (OpenSpec.ofChange Rows.hmacCheckedSpec) :=
  OpenClaim.holds_of_wide 5 Tryd.f5 rfl rfl rfl rfl rfl rfl rfl ⟨rfl, rfl, rfl, rfl, rfl⟩ rfl rfl rfl rfl rfl (by kernel_rfl) Tryd.func5 (by kernel_rfl)
    (of_decide_eq_true (by kernel_rfl)) (by unfold Func.isWrapper; first | (rw [if_pos (by decide +kernel)]; kernel_rfl) | (rw [if_neg (by decide +kernel)]; exact ⟨rfl, rfl⟩))
    (fun os started H enc _ => lifted os started H enc)
/-- The statement: the tied card. -/
theorem proved : Rows.HmacCheckedCardSaid :=
  Claim7.holds_tied_plain_at .later [] [.data] true (true, "9abe32846175d7d928e091f7b03d119c43aa96f6037755fc8c775b6f4729cb41") false over (fun _ h => by cases h) (by kernel_rfl) (fun _ h => by cases h) hmacChecked_row_tie rfl ⟨rfl, rfl⟩ (by kernel_rfl) rfl
    (fun f fn hf hfn => by
      obtain rfl : f = 5 := Option.some.inj ((show Tryd.prog.funcNamed "concierge/conciergelaw03.HmacChecked" = some 5 by kernel_rfl).symm.trans hf) |>.symm
      obtain rfl : fn = Tryd.f5 := (Option.some.inj (Tryd.func5.symm.trans hfn)).symm
      exact ⟨by kernel_rfl, fun j t ht => by
        rw [Tryd.params5] at ht
        have hm : t ∈ [22, 22, 37, 5, 22] := by simpa using Array.mem_of_getElem? ht
        have hall : ([22, 22, 37, 5, 22].all fun u => !Tryd.prog.wantsStandIn u) = true := by kernel_rfl
        exact (show Tryd.prog.wantsStandIn t = false by simpa using List.all_eq_true.1 hall t hm)⟩)
    (by kernel_rfl)
end Go.Proofs.YtjlebchbfadkoaaDoor.hmacChecked
