/-
  For every three slices of bytes (their first 400 bytes) a fork of a Hash goes its own way: both tell the sums and lengths of their own texts (conciergelaw02.ShaForks answers true). The listed table of constants is tied to the program's text. No condition.
-/
import Derived.Test.YtagfgkhadmoboaaDoorShaN
import Derived.ProofKit
import Derived.OpenShut
import Derived.ShutString
import Derived.ChangeOld
import Derived.SevenTiedAt
namespace Go.Proofs.YtagfgkhadmoboaaDoor.shaForks
open Go.ChangeShapes Go.WideShapes Go.ChangeAt Go.RowKit
open Go.ChangeMaps (open_string shut_string)
set_option linter.unusedVariables false
set_option linter.unusedSimpArgs false

theorem cut_in {W : World} {a : Option Addr} {n c : Nat} {l : List UInt8} (hn : l.length = n) (b : Bs W (.slice a n c) l) :
    ∃ (m : Nat) (x : List UInt8), m ≤ 400 ∧ x.length = m ∧ Bs W (.slice a m c) x ∧ (0 < m → ∀ ad, a = some ad → ad.block < W.heap.size) ∧
      ∀ w, Calls Tryd.prog 18 #[.slice a n c] w fun e w' => e = .returned (.slice a m c) ∧ w = w' := by
  obtain ⟨_, _, es, hc, hm⟩ := b.shape
  simp only [Value.slice.injEq] at es
  obtain ⟨rfl, _, rfl⟩ := es
  have u := b.upto hn (min n 400) (by omega)
  have g : (l.take (min n 400)).length = min n 400 := by rw [List.length_take]; omega
  exact ⟨min n 400, l.take (min n 400), by omega, g, u, u.low g, fun w => cut_any a n c w (by omega) hm⟩
theorem neq0 (w : World) : True := trivial

set_option maxHeartbeats 4000000 in
theorem walk (W : World) (hL : Laid W) (a0 : Option Addr) (n0 c0 : Nat) (l0 : List UInt8) (hn0 : l0.length = n0) (b0 : Bs W (.slice a0 n0 c0) l0) (a1 : Option Addr) (n1 c1 : Nat) (l1 : List UInt8) (hn1 : l1.length = n1) (b1 : Bs W (.slice a1 n1 c1) l1) (a2 : Option Addr) (n2 c2 : Nat) (l2 : List UInt8) (hn2 : l2.length = n2) (b2 : Bs W (.slice a2 n2 c2) l2) :
    Calls Tryd.prog 9 #[.slice a0 n0 c0, .slice a1 n1 c1, .slice a2 n2 c2] W fun e w' => e = .returned (.bool true) ∧ Below W.heap.size W w' := by
  obtain ⟨m0, x0, hm0, hx0, u0, lo0, hc0⟩ := cut_in hn0 b0
  obtain ⟨m1, x1, hm1, hx1, u1, lo1, hc1⟩ := cut_in hn1 b1
  obtain ⟨m2, x2, hm2, hx2, u2, lo2, hc2⟩ := cut_in hn2 b2
  have HC0 := Lib.hid hc0
  have HC1 := Lib.hid hc1
  have HC2 := Lib.hid hc2
  have HX0 := Lib.hid hx0
  have HX1 := Lib.hid hx1
  have HX2 := Lib.hid hx2
  have U0 := Lib.hid u0
  have U1 := Lib.hid u1
  have U2 := Lib.hid u2
  have L0 := Lib.hid lo0
  have L1 := Lib.hid lo1
  have L2 := Lib.hid lo2
  have HLD := Lib.hid hL
  have HW0 : 0 < W.heap.size := hL.1
  obtain ⟨i0, hi, hz0, hz1, hz2⟩ := info_parts info5
  clear hn0 hn1 hn2 b0 b1 b2 u0 u1 u2 lo0 lo1 lo2 hc0 hc1 hc2 hx0 hx1 hx2 hL
  go_enter Tryd.func9, Tryd.ntmps9
  go_wp2_with fail
  refine (HC0.out _).mono ?_
  rintro e w' ⟨rfl, rfl⟩
  go_wp2_with fail
  refine (HC1.out _).mono ?_
  rintro e w' ⟨rfl, rfl⟩
  go_wp2_with fail
  refine (HC2.out _).mono ?_
  rintro e w' ⟨rfl, rfl⟩
  go_wp2_with fail
  refine (new_any W).mono ?_
  rintro e w1 ⟨g, rfl, hg, hh1, hb1⟩
  have H1 := Lib.hid hh1
  have B1 : Hid (Below W.heap.size W w1) := hb1
  have O0 : Hid (0 < m0 → Off g a0) := fun h0 ad had => by have := L0.out h0 ad had; omega
  have V0 := Lib.hid (U0.out.below hb1)
  clear hh1 hb1
  go_wp2_with fail
  refine (add_any g [] w1 H1.out (HLD.out.below B1.out) (by omega) a0 m0 c0 x0 HX0.out V0.out O0.out (by have := HX0.out; simp; omega)).mono ?_
  rintro e w2 ⟨rfl, hh2, ho2⟩
  rw [List.nil_append] at hh2
  have H2 := Lib.hid hh2
  have B2 : Hid (Below W.heap.size W w2) := ho2.below _ _ (by omega) B1.out
  clear hh2 ho2
  go_wp2_with fail
  refine (awake_any w2 (HLD.out.below B2.out)).mono ?_
  rintro e w3 ⟨rfl, hb3⟩
  have H3 := Lib.hid (H2.out.below hb3)
  have B3 : Hid (Below W.heap.size W w3) := B2.out.trans (hb3.mono B2.out.size)
  clear hb3
  go_wp2_with fail
  refine (fork_any g x0 w3 H3.out).mono ?_
  rintro e w4 ⟨g', rfl, hg', hh4, hb4⟩
  have K4 := Lib.hid hh4
  have H4 := Lib.hid (H3.out.below hb4)
  have B4 : Hid (Below W.heap.size W w4) := B3.out.trans (hb4.mono B3.out.size)
  have hne : g ≠ g' := by have := H3.out.lt; omega
  clear hh4 hb4
  have O1 : Hid (0 < m1 → Off g a1) := fun h0 ad had => by have := L1.out h0 ad had; omega
  go_wp2_with fail
  refine (add_any g x0 w4 H4.out (HLD.out.below B4.out) (by omega) a1 m1 c1 x1 HX1.out (U1.out.below B4.out) O1.out (by have := HX1.out; have := HX0.out; omega)).mono ?_
  rintro e w5 ⟨rfl, hh5, ho5⟩
  have H5 := Lib.hid hh5
  have K5 := Lib.hid (K4.out.only ho5 (Ne.symm hne))
  have B5 : Hid (Below W.heap.size W w5) := ho5.below _ _ (by omega) B4.out
  clear hh5 ho5
  have hg'2 : W.heap.size ≤ g' := by have := B3.out.size; omega
  have O2 : Hid (0 < m2 → Off g' a2) := fun h0 ad had => by have := L2.out h0 ad had; omega
  go_wp2_with fail
  refine (add_any g' x0 w5 K5.out (HLD.out.below B5.out) (by omega) a2 m2 c2 x2 HX2.out (U2.out.below B5.out) O2.out (by have := HX2.out; have := HX0.out; omega)).mono ?_
  rintro e w6 ⟨rfl, hh6, ho6⟩
  have K6 := Lib.hid hh6
  have H6 := Lib.hid (H5.out.only ho6 hne)
  have B6 : Hid (Below W.heap.size W w6) := ho6.below _ _ (by omega) B5.out
  clear hh6 ho6 hne
  obtain ⟨t1, ht1⟩ : ∃ t, t = x0 ++ x1 := ⟨_, rfl⟩
  obtain ⟨t2, ht2⟩ : ∃ t, t = x0 ++ x2 := ⟨_, rfl⟩
  have HH : Hid (HashAt w6 g t1) := by rw [ht1]; exact H6.out
  have KK : Hid (HashAt w6 g' t2) := by rw [ht2]; exact K6.out
  have hl1 : t1.length = x0.length + x1.length := by rw [ht1, List.length_append]
  have hl2 : t2.length = x0.length + x2.length := by rw [ht2, List.length_append]
  have hm1' : x0.map u8v ++ x1.map u8v = t1.map u8v := by rw [ht1, List.map_append]
  have hm2' : x0.map u8v ++ x2.map u8v = t2.map u8v := by rw [ht2, List.map_append]
  have hb1 : t1.length ≤ 800 := by have := HX0.out; have := HX1.out; omega
  have hb2 : t2.length ≤ 800 := by have := HX0.out; have := HX2.out; omega
  have HL1 := Lib.hid hl1
  have HL2 := Lib.hid hl2
  have HM1 := Lib.hid hm1'
  have HM2 := Lib.hid hm2'
  have hx0' : x0.length ≤ 400 := by have := HX0.out; omega
  have hx1' : x1.length ≤ 400 := by have := HX1.out; omega
  have hx2' : x2.length ≤ 400 := by have := HX2.out; omega
  clear ht1 ht2 hl1 hl2 hm1' hm2' H1 H2 H3 H4 H5 K4 K5 H6 K6 O0 O1 O2 L0 L1 L2 V0 B1 B2 B3 B4 B5 HC0 HC1 HC2
  -- x
  have E6 := Lib.hid (own_empty w6 5)
  have A6 : Hid (Below w6.heap.size w6 (w6.alloc (.cells #[] 5))) := (Below.refl _ _).alloc (Nat.le_refl _) _
  have P6 := Lib.hid ((U0.out.below B6.out).below A6.out)
  have S6 : Hid (w6.heap.size ≤ (w6.alloc (.cells #[] 5)).heap.size) := A6.out.size
  go_wp2_with (at_builtin; refine wpList_append_rd _ rfl _ _ 29 rfl w6.heap.size 5 i0 (.int .u8 0) 1 1 Tryd.underlying29 hi hz0 hz1 hz2 rfl (by decide) _ 0 [] rfl E6.out _ _ _ rfl P6.out (oneCell_u8 _) ?o2 (by decide) S6.out ?_)
  case o2 => omega
  intro v7 w7 hown7 hb7
  have B7 : Hid (Below w6.heap.size w6 w7) := A6.out.trans hb7
  have O7 := Lib.hid hown7
  have S7 : Hid (w6.heap.size ≤ w7.heap.size) := B7.out.size
  have P7 := Lib.hid ((U1.out.below B6.out).below B7.out)
  clear hown7 hb7 E6 A6 P6 S6
  go_wp2_with (at_builtin; refine wpList_append_rd _ rfl _ _ 29 rfl w6.heap.size 5 i0 (.int .u8 0) 1 1 Tryd.underlying29 hi hz0 hz1 hz2 rfl (by decide) _ _ _ rfl O7.out _ _ _ rfl P7.out (oneCell_u8 _) ?p2 (by decide) S7.out ?_)
  case p2 => omega
  intro v8 w8 hown8 hb8
  rw [HM1.out, ← HL1.out] at hown8
  have B8 : Hid (Below w6.heap.size w6 w8) := B7.out.trans hb8
  obtain ⟨ao8, c8, hv8⟩ : ∃ ao8 c8, v8 = .slice ao8 t1.length c8 := by
    obtain ⟨a, c, h, _⟩ := (own_rd hown8).shape
    exact ⟨a, c, h⟩
  subst hv8
  have V8 : Hid (Bs w8 (.slice ao8 t1.length c8) t1) := own_rd hown8
  clear hown8 hb8 O7 S7 P7 B7
  -- y
  have E8 := Lib.hid (own_empty w8 5)
  have A8 : Hid (Below w8.heap.size w8 (w8.alloc (.cells #[] 5))) := (Below.refl _ _).alloc (Nat.le_refl _) _
  have P8 := Lib.hid (((U0.out.below B6.out).below B8.out).below A8.out)
  have S8 : Hid (w8.heap.size ≤ (w8.alloc (.cells #[] 5)).heap.size) := A8.out.size
  go_wp2_with (at_builtin; refine wpList_append_rd _ rfl _ _ 29 rfl w8.heap.size 5 i0 (.int .u8 0) 1 1 Tryd.underlying29 hi hz0 hz1 hz2 rfl (by decide) _ 0 [] rfl E8.out _ _ _ rfl P8.out (oneCell_u8 _) ?q2 (by decide) S8.out ?_)
  case q2 => omega
  intro v9 w9 hown9 hb9
  have B9 : Hid (Below w8.heap.size w8 w9) := A8.out.trans hb9
  have O9 := Lib.hid hown9
  have S9 : Hid (w8.heap.size ≤ w9.heap.size) := B9.out.size
  have P9 := Lib.hid (((U2.out.below B6.out).below B8.out).below B9.out)
  clear hown9 hb9 E8 A8 P8 S8
  go_wp2_with (at_builtin; refine wpList_append_rd _ rfl _ _ 29 rfl w8.heap.size 5 i0 (.int .u8 0) 1 1 Tryd.underlying29 hi hz0 hz1 hz2 rfl (by decide) _ _ _ rfl O9.out _ _ _ rfl P9.out (oneCell_u8 _) ?r2 (by decide) S9.out ?_)
  case r2 => omega
  intro v10 w10 hown10 hb10
  rw [HM2.out, ← HL2.out] at hown10
  have B10' : Hid (Below w8.heap.size w8 w10) := B9.out.trans hb10
  obtain ⟨ao10, c10, hv10⟩ : ∃ ao10 c10, v10 = .slice ao10 t2.length c10 := by
    obtain ⟨a, c, h, _⟩ := (own_rd hown10).shape
    exact ⟨a, c, h⟩
  subst hv10
  have V10 : Hid (Bs w10 (.slice ao10 t2.length c10) t2) := own_rd hown10
  have W10 : Hid (Bs w10 (.slice ao8 t1.length c8) t1) := V8.out.below B10'.out
  have B10 : Hid (Below w6.heap.size w6 w10) := B8.out.trans (B10'.out.mono B8.out.size)
  have G10 : Hid (Gr W w10) := B6.out.trans (B10.out.mono B6.out.size)
  have H10 : Hid (HashAt w10 g t1) := HH.out.below B10.out
  have K10 : Hid (HashAt w10 g' t2) := KK.out.below B10.out
  clear hown10 hb10 O9 S9 P9 B9 B10 B10' V8 HH KK B6 B8
  -- sums
  obtain ⟨y1, hy1⟩ : ∃ y, y = sumL t1 := ⟨_, rfl⟩
  obtain ⟨y2, hy2⟩ : ∃ y, y = sumL t2 := ⟨_, rfl⟩
  have Y1 := Lib.hid hy1
  have Y2 := Lib.hid hy2
  have E1 : ∀ w, (binOp .eql 33 (.agg (y1.map u8v).toArray) (.agg (y1.map u8v).toArray)).run Tryd.prog w = .ok (.bool true) w := fun w => eql_bytes32 y1 (by rw [Y1.out]; exact sumL_length t1) w
  have E2 : ∀ w, (binOp .eql 33 (.agg (y2.map u8v).toArray) (.agg (y2.map u8v).toArray)).run Tryd.prog w = .ok (.bool true) w := fun w => eql_bytes32 y2 (by rw [Y2.out]; exact sumL_length t2) w
  have HS1 := Lib.hid (hsum_any g t1 w10 H10.out (HLD.out.below G10.out) (by omega))
  rw [← hy1] at HS1
  clear hy1 hy2
  go_wp2_with fail
  refine (HS1.out).mono ?_
  rintro e w11 ⟨rfl, hb11⟩
  have G11 : Hid (Gr w10 w11) := hb11
  have HR1 := Lib.hid (rsum_any ao8 t1.length c8 t1 rfl w11 (W10.out.below hb11) (by omega))
  rw [← Y1.out] at HR1
  clear hb11
  go_wp2_with fail
  refine (HR1.out).mono ?_
  rintro e w12 ⟨rfl, hb12⟩
  have G12 : Hid (Gr w10 w12) := G11.out.trans hb12
  have HS2 := Lib.hid (hsum_any g' t2 w12 (K10.out.below G12.out) (HLD.out.below (G10.out.trans G12.out)) (by omega))
  rw [← Y2.out] at HS2
  clear hb12
  go_wp2_with fail
  refine (HS2.out).mono ?_
  rintro e w13 ⟨rfl, hb13⟩
  have G13 : Hid (Gr w10 w13) := G12.out.trans hb13
  have HR2 := Lib.hid (rsum_any ao10 t2.length c10 t2 rfl w13 (V10.out.below G13.out) (by omega))
  rw [← Y2.out] at HR2
  clear hb13
  go_wp2_with fail
  refine (HR2.out).mono ?_
  rintro e w14 ⟨rfl, hb14⟩
  have G14 : Hid (Gr w10 w14) := G13.out.trans hb14
  clear hb14
  go_wp2_with fail
  refine (len_any g t1 w14 (H10.out.below G14.out)).mono ?_
  rintro e w15 ⟨rfl, rfl⟩
  go_wp2_with fail
  refine (len_any g' t2 w14 (K10.out.below G14.out)).mono ?_
  rintro e w15 ⟨rfl, rfl⟩
  go_wp2
  go_ret
  exact ⟨rfl, G10.out.trans G14.out⟩

theorem own : ownKnob Tryd.prog.godebug = none := by kernel_rfl
theorem laidOut : laidOutB Tryd.prog = true := by kernel_rfl
theorem door_met (os : Os) (args : Array Value) : laidMetH Tryd.prog Rows.shaForksRow.laid ((World.doorLaid Tryd.prog 400 os).forCall (fun _ _ => 0) ⟨#[], args, []⟩).memory :=
  laidMetH_of_parts3 (fuel := 8) (laidMet_of_run' 8 (by kernel_rfl) (by kernel_rfl)) (by kernel_rfl) (by kernel_rfl)
set_option maxRecDepth 100000 in
theorem lifted (os : Os) (started : os.Started) (H : Type) (enc : TypeId × Value → H) :
    ReturnsInHanded {} Tryd.checked os 9 .any (fun w args => (Rows.shaForksSpec.pre enc Tryd.prog Tryd.f9 [] false w args ∧ laidMetH Tryd.prog Rows.shaForksRow.laid w) ∧ sizedMet enc Tryd.prog Tryd.f9 (OpenSpec.ofChange Rows.shaForksSpec) false w args) (Rows.shaForksSpec.post enc Tryd.prog Tryd.f9 false true false false) := by
  refine returnsInHanded_of_change_and (C := Tryd.checked) (X := fun w _ => laidMetH Tryd.prog Rows.shaForksRow.laid w) (fun _ _ _ hh h => h.of_heap hh) own started (by kernel_rfl) Tryd.func9
    (ChangeSpec.witness_shaped (enc := enc) (C := Tryd.checked) (os := os) (X := fun w _ => laidMetH Tryd.prog Rows.shaForksRow.laid w) false (World.doorLaid Tryd.prog 400 os) #[.slice none 0 0, .slice none 0 0, .slice none 0 0] 8 rfl (World.shaped_of_RefB (by kernel_rfl) (by kernel_rfl)) (by kernel_rfl) (by kernel_rfl) (by kernel_rfl) (door_met os _)) ?_
  intro W base args ds gs before hval0 hW _ _ hL _
  have hval : ∀ (j : Nat) t v, Tryd.f9.params[j]? = some t → args[j]? = some v → Value.okWide Tryd.prog W .any base t v := hval0
  have hW' := hW
  obtain ⟨p, q, hA0, hV, rfl, hfz, hnd⟩ := hW
  have hA : DataW.TrodAll enc Tryd.prog W 0 (fun _ => true) true Tryd.f9.params.toList args.toList ds p := hA0
  rw [Tryd.params9] at hA hval
  obtain ⟨v0, vs0, d0, ds0, p0, q0, hargs, rfl, rfl, h0, r0⟩ := trodAll_cons hA
  obtain ⟨v1, vs1, d1, ds1, p1, q1, rfl, rfl, rfl, h1, r1⟩ := trodAll_cons r0
  obtain ⟨v2, vs2, d2, ds2, p2, q2, rfl, rfl, rfl, h2, r2⟩ := trodAll_cons r1
  obtain ⟨rfl, rfl, rfl⟩ := trodAll_nil r2
  obtain rfl : args = #[v0, v1, v2] := by cases args; simp_all
  obtain ⟨rfl, rfl⟩ := trodVars_none hV
  have k0 := h0
  have lt0 : ∀ x ∈ p0, x.block < W.heap.size := by obtain ⟨m, hm⟩ := k0; exact DataW.trod_lt m _ _ _ hm
  obtain ⟨a0, n0, c0, l0, rfl, hn0, b0⟩ := open_bytes Tryd.underlying29 Tryd.underlying5 (by kernel_rfl) (hval 0 29 v0 rfl rfl) h0
  have k1 := h1
  have lt1 : ∀ x ∈ p1, x.block < W.heap.size := by obtain ⟨m, hm⟩ := k1; exact DataW.trod_lt m _ _ _ hm
  obtain ⟨a1, n1, c1, l1, rfl, hn1, b1⟩ := open_bytes Tryd.underlying29 Tryd.underlying5 (by kernel_rfl) (hval 1 29 v1 rfl rfl) h1
  have k2 := h2
  have lt2 : ∀ x ∈ p2, x.block < W.heap.size := by obtain ⟨m, hm⟩ := k2; exact DataW.trod_lt m _ _ _ hm
  obtain ⟨a2, n2, c2, l2, rfl, hn2, b2⟩ := open_bytes Tryd.underlying29 Tryd.underlying5 (by kernel_rfl) (hval 2 29 v2 rfl rfl) h2
  clear hA0 hval0
  refine (walk W (of_laid hL) a0 n0 c0 l0 hn0 b0 a1 n1 c1 l1 hn1 b1 a2 n2 c2 l2 hn2 b2).mono fun e W' ⟨he, bel⟩ => ?_
  subst he
  exact ⟨_, rfl, _, _, _, [], _, [], hW', trodAll_mk1 (shut_bool Tryd.underlying4 _), (trodAll_cons_mk (Below.trod laidOut (by kernel_rfl) (of_decide_eq_true (by kernel_rfl)) k0 bel lt0) (trodAll_cons_mk (Below.trod laidOut (by kernel_rfl) (of_decide_eq_true (by kernel_rfl)) k1 bel lt1) (trodAll_cons_mk (Below.trod laidOut (by kernel_rfl) (of_decide_eq_true (by kernel_rfl)) k2 bel lt2) trodAll_mk0))), rfl, bel.frame _, fun h => by cases h⟩
theorem over : Rows.shaForksRow.holds Tryd.pinned (OpenSpec.ofChange Rows.shaForksSpec) :=
  OpenClaim.holds_of_wide 9 Tryd.f9 rfl rfl rfl rfl rfl rfl rfl ⟨rfl, rfl, rfl, rfl, rfl⟩ rfl rfl rfl rfl rfl (by kernel_rfl) Tryd.func9 (by kernel_rfl)
    (of_decide_eq_true (by kernel_rfl)) (by unfold Func.isWrapper; first | (rw [if_pos (by decide +kernel)]; kernel_rfl) | (rw [if_neg (by decide +kernel)]; exact ⟨rfl, rfl⟩))
    (fun os started H enc _ => lifted os started H enc)
/-- The statement: the tied card. -/
theorem proved : Rows.ShaForksCardSaid :=
  Claim7.holds_tied_plain_at .later [] [.data] true (true, "965a8da0ce5c2711f41dbdd53310348fca91422acffbe9034a6b03730aadf053") false over (fun _ h => by cases h) (by kernel_rfl) (fun _ h => by cases h) shaForks_row_tie rfl ⟨rfl, rfl⟩ (by kernel_rfl) rfl
    (fun f fn hf hfn => by
      obtain rfl : f = 9 := Option.some.inj ((show Tryd.prog.funcNamed "concierge/conciergelaw02.ShaForks" = some 9 by kernel_rfl).symm.trans hf) |>.symm
      obtain rfl : fn = Tryd.f9 := (Option.some.inj (Tryd.func9.symm.trans hfn)).symm
      exact ⟨by kernel_rfl, fun j t ht => by
        rw [Tryd.params9] at ht
        have hm : t ∈ [29, 29, 29] := by simpa using Array.mem_of_getElem? ht
        have hall : ([29, 29, 29].all fun u => !Tryd.prog.wantsStandIn u) = true := by kernel_rfl
        exact (show Tryd.prog.wantsStandIn t = false by simpa using List.all_eq_true.1 hall t hm)⟩)
    (by kernel_rfl)
end Go.Proofs.YtagfgkhadmoboaaDoor.shaForks
