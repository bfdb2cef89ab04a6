/-
  For all settings (of the secret its first 70 bytes), any two addresses, any two slices of bytes (their first 1600 bytes) and any two ticks: where the cookie that is made of the second address, the second slice and the first tick is valid of the first address and the first slice at the second tick, it is byte by byte one of the two that cookie.Make tells of these: in this epoch, and in the one ahead (conciergelaw09.CookieWhose answers true). The listed table of constants is tied to the program's text. No condition.
-/
import Derived.Test.YtjlacialbfhjcaaDoorCkJ
import Derived.Test.YtjlacialbfhjcaaDoorOpenK
import Derived.Test.YtjlacialbfhjcaaDoorShaL
import Derived.ProofKit
import Derived.OpenShut
import Derived.ShutString
import Derived.ChangeOld
import Derived.SevenTiedAt
namespace Go.Proofs.YtjlacialbfhjcaaDoor.cookieWhose
open Go.ChangeShapes Go.WideShapes Go.ChangeAt Go.RowKit
open Go.ChangeMaps (open_string shut_string)
open Go.Proofs.YtjlacialbfhjcaaDoor.Ck
set_option linter.unusedVariables false
set_option linter.unusedSimpArgs false

theorem boxed3 (w : World) (o p q : Obj) : Below w.heap.size w (((w.alloc o).alloc p).alloc q) := (boxed_two w o p).alloc (by simp; omega) _
theorem boxed3_0 (w : World) (o p q : Obj) : (((w.alloc o).alloc p).alloc q).heap[w.heap.size]? = some o := by
  rw [Below.heap_alloc _ _ _ (by simp; omega)]; exact boxed_0 w o p
theorem boxed3_1 (w : World) (o p q : Obj) : (((w.alloc o).alloc p).alloc q).heap[w.heap.size + 1]? = some p := by
  rw [Below.heap_alloc _ _ _ (by simp)]; exact boxed_1 w o p
theorem boxed3_2 (w : World) (o p q : Obj) : (((w.alloc o).alloc p).alloc q).heap[w.heap.size + 1 + 1]? = some q := by
  have := heap_alloc_last ((w.alloc o).alloc p) q
  rwa [World.size_alloc, World.size_alloc] at this
set_option maxRecDepth 20000 in
set_option maxHeartbeats 4000000 in
theorem walk1 (W : World) (hL : Laid W) (a0 : Option Addr) (n0 c0 : Nat) (l0 : List UInt8) (T : Int) (hn0 : l0.length = n0) (b0 : Bs W (.slice a0 n0 c0) l0) (v0 v1 v2 v3 v4 v5 : Value) (mac : List UInt8) (hm : mac.map u8v = [v0, v1, v2, v3, v4, v5])
    (a2 : Option Addr) (n2 c2 : Nat) (l2 : List UInt8) (hn2 : l2.length = n2) (b2 : Bs W (.slice a2 n2 c2) l2) (p0 p1 p2 p3 p4 p5 : Value) (mad : List UInt8) (hd : mad.map u8v = [p0, p1, p2, p3, p4, p5])
    (a4 : Option Addr) (n4 c4 : Nat) (l4 : List UInt8) (hn4 : l4.length = n4) (b4 : Bs W (.slice a4 n4 c4) l4) (s t : Int) :
    Calls Tryd.prog 6 #[.agg #[.slice a0 n0 c0, .int .i64 T], .agg #[v0, v1, v2, v3, v4, v5], .slice a2 n2 c2, .agg #[p0, p1, p2, p3, p4, p5], .slice a4 n4 c4, .int .i64 s, .int .i64 t] W fun e w' => e = .returned (.bool true) ∧ Below W.heap.size W w' := by
  obtain ⟨k0, x0, hk0, hx0, u0, hc0⟩ := light_in T hn0 b0
  obtain ⟨k2, x2, hk2, hx2, u2, hc2⟩ := cut_in hn2 b2
  obtain ⟨k4, x4, hk4, hx4, u4, hc4⟩ := cut_in hn4 b4
  have HC0 := Lib.hid hc0
  have HC2 := Lib.hid hc2
  have HC4 := Lib.hid hc4
  have HS := Lib.hid (fun (w : World) (g : Below W.heap.size W w) => make_any a0 k0 c0 x0 hx0 T s a4 k4 c4 x4 hx4 p0 p1 p2 p3 p4 p5 mad hd w (hL.below g) (u0.below g) (u4.below g))
  have HX := Lib.hid (fun (t : Int) (w : World) (g : Below W.heap.size W w) => make_any a0 k0 c0 x0 hx0 T t a2 k2 c2 x2 hx2 v0 v1 v2 v3 v4 v5 mac hm w (hL.below g) (u0.below g) (u2.below g))
  have HVA := Lib.hid (fun (ac : Option Addr) (nc cc : Nat) (c : List UInt8) (hc : c.length = nc) (w : World) (g : Below W.heap.size W w) (hb : Bs w (.slice ac nc cc) c) => valid_any a0 k0 c0 x0 hx0 T t a2 k2 c2 x2 hx2 ac nc cc c hc v0 v1 v2 v3 v4 v5 mac hm w (hL.below g) (u0.below g) (u2.below g) hb)
  have HA := Lib.hid (fun (w : World) (g : Below W.heap.size W w) => awake_any w (hL.below g))
  unfold MRes at HS HX
  obtain ⟨y, hy⟩ : ∃ y, y = makB x0 T mad x4 s := ⟨_, rfl⟩
  obtain ⟨k, hk⟩ : ∃ k, k = makE x0 T x4 s := ⟨_, rfl⟩
  rw [← hy, ← hk] at HS
  have HB1 : Hid (Below W.heap.size W (((W.alloc (.cells #[.slice a0 n0 c0, .int .i64 T] 24)).alloc (.cells #[v0, v1, v2, v3, v4, v5] 26)).alloc (.cells #[p0, p1, p2, p3, p4, p5] 26))) := boxed3 _ _ _ _
  have HG0 : Hid ((((W.alloc (.cells #[.slice a0 n0 c0, .int .i64 T] 24)).alloc (.cells #[v0, v1, v2, v3, v4, v5] 26)).alloc (.cells #[p0, p1, p2, p3, p4, p5] 26)).heap[W.heap.size]? = some (.cells #[.slice a0 n0 c0, .int .i64 T] 24 (0, 0))) := boxed3_0 _ _ _ _
  have HG1 : Hid ((((W.alloc (.cells #[.slice a0 n0 c0, .int .i64 T] 24)).alloc (.cells #[v0, v1, v2, v3, v4, v5] 26)).alloc (.cells #[p0, p1, p2, p3, p4, p5] 26)).heap[W.heap.size + 1]? = some (.cells #[v0, v1, v2, v3, v4, v5] 26 (0, 0))) := boxed3_1 _ _ _ _
  have HG2 : Hid ((((W.alloc (.cells #[.slice a0 n0 c0, .int .i64 T] 24)).alloc (.cells #[v0, v1, v2, v3, v4, v5] 26)).alloc (.cells #[p0, p1, p2, p3, p4, p5] 26)).heap[W.heap.size + 1 + 1]? = some (.cells #[p0, p1, p2, p3, p4, p5] 26 (0, 0))) := boxed3_2 _ _ _ _
  clear hn0 hn2 hn4 b0 b2 b4 u0 u2 u4 hc0 hc2 hc4 hk0 hk2 hk4 hx0 hx2 hx4 hL hm hd hy hk
  go_enter Tryd.func6, Tryd.ntmps6
  go_wp2_with fail
  generalize ((W.alloc (.cells #[.slice a0 n0 c0, .int .i64 T] 24)).alloc (.cells #[v0, v1, v2, v3, v4, v5] 26)).alloc (.cells #[p0, p1, p2, p3, p4, p5] 26) = w1 at HB1 HG0 HG1 HG2 ⊢
  refine (HC0.out _).mono ?_
  rintro e w2 ⟨rfl, hb2⟩
  have HB2 := Lib.hid (HB1.out.trans (hb2.mono HB1.out.size))
  have HG02 : Hid (w2.heap[W.heap.size]? = some (.cells [.slice a0 n0 c0, .int .i64 T].toArray 24 (0, 0))) := heap_below HG0.out hb2
  have HG12 := Lib.hid (heap_below HG1.out hb2)
  have HG22 := Lib.hid (heap_below HG2.out hb2)
  clear hb2 HB1 HG0 HG1 HG2
  go_wp2_with fail
  refine (HC2.out _).mono ?_
  rintro e w' ⟨rfl, rfl⟩
  go_wp2_with fail
  refine (HC4.out _).mono ?_
  rintro e w' ⟨rfl, rfl⟩
  go_wp2_with (with_reducible refine wpList_store_whole rfl 24 (.tmp 7) (.tmp 22) rfl W.heap.size [.slice a0 k0 c0, .int .i64 T] rfl rfl 24 _ HG02.out ?s1 ?s2 ?s3 ?_)
  case s1 => kernel_rfl
  case s2 => rfl
  case s3 => intro u hu; simp only [List.mem_cons, List.not_mem_nil, or_false] at hu; rcases hu with rfl | rfl <;> rfl
  intro w3 h3 ho3
  have HG03 : Hid (w3.heap[W.heap.size]? = some (.cells #[.slice a0 k0 c0, .int .i64 T] 24 (0, 0))) := h3
  have HG13 : Hid (w3.heap[W.heap.size + 1]? = some (.cells #[v0, v1, v2, v3, v4, v5] 26 (0, 0))) := by
    show _ = _
    rw [ho3.heap _ (Array.getElem?_eq_some_iff.1 HG12.out).1 (by omega)]; exact HG12.out
  have HG23 : Hid (w3.heap[W.heap.size + 1 + 1]? = some (.cells #[p0, p1, p2, p3, p4, p5] 26 (0, 0))) := by
    show _ = _
    rw [ho3.heap _ (Array.getElem?_eq_some_iff.1 HG22.out).1 (by omega)]; exact HG22.out
  have HB3 := Lib.hid (ho3.below _ _ (Nat.le_refl _) HB2.out)
  clear h3 ho3 HG02 HG12 HG22 HB2
  obtain ⟨z0, z1⟩ := cells2 HG03.out
  obtain ⟨m0, m1, m2, m3, m4, m5⟩ := cells6 HG23.out
  go_wp2_with fail
  refine (HS.out _ HB3.out).mono ?_
  rintro e w4 ⟨A, L, C, rfl, hl, ho, hb4⟩
  have HB4 := Lib.hid (HB3.out.trans (hb4.mono HB3.out.size))
  have HG04 := Lib.hid (heap_below HG03.out hb4)
  have HG14 := Lib.hid (heap_below HG13.out hb4)
  have HO4 := Lib.hid ho.bs
  have HLY := Lib.hid hl
  clear hl ho hb4 HB3 HG03 HG13 HG23 z0 z1 m0 m1 m2 m3 m4 m5
  obtain ⟨z0, z1⟩ := cells2 HG04.out
  obtain ⟨m0, m1, m2, m3, m4, m5⟩ := cells6 HG14.out
  by_cases h0 : k = 0
  · subst h0
    go_wp2_with fail
    refine (HVA.out A L C y HLY.out w4 HB4.out HO4.out).mono ?_
    rintro e w5 ⟨rfl, hb5⟩
    have HB5 := Lib.hid (HB4.out.trans (hb5.mono HB4.out.size))
    have HG05 := Lib.hid (heap_below HG04.out hb5)
    have HG15 := Lib.hid (heap_below HG14.out hb5)
    have HO5 := Lib.hid (HO4.out.below hb5)
    clear hb5 HB4 HG04 HG14 HO4 z0 z1 m0 m1 m2 m3 m4 m5
    by_cases hv : valid x0 T mac x2 y t
    · rw [decide_eq_true hv]
      obtain ⟨hmk, _⟩ := id hv
      have hw := valid_whose hv
      have htr := (epE_zero (makE_zero hmk).1).2
      have hTr := ((okC_iff x0 T).1 (epE_zero (makE_zero hmk).1).1).2
      unfold top at htr
      have HW := Lib.hid hw
      have HX1 := Lib.hid (HX.out t)
      obtain ⟨y2, hy2⟩ : ∃ y, y = makB x0 T mac x2 t := ⟨_, rfl⟩
      rw [hmk, ← hy2] at HX1
      have HY2 := Lib.hid hy2
      obtain ⟨ht1, ht2⟩ := htr
      obtain ⟨hT1, hT2⟩ := hTr
      clear hv hw hmk hy2
      obtain ⟨z0, z1⟩ := cells2 HG05.out
      obtain ⟨m0, m1, m2, m3, m4, m5⟩ := cells6 HG15.out
      go_wp2_with fail
      refine (HX1.out _ HB5.out).mono ?_
      rintro e w6 ⟨A6, L6, C6, rfl, hl6, ho6, hb6⟩
      have HB6 := Lib.hid (HB5.out.trans (hb6.mono HB5.out.size))
      have HG06 := Lib.hid (heap_below HG05.out hb6)
      have HG16 := Lib.hid (heap_below HG15.out hb6)
      have HO6 := Lib.hid (HO5.out.below hb6)
      have tX := ho6.bs.txt w6 (Gr.refl _)
      have tB := HO6.out.txt w6 (Gr.refl _)
      clear hl6 ho6 hb6 HB5 HG05 HG15 HO5 z0 z1 m0 m1 m2 m3 m4 m5
      by_cases he : y2 = y
      · subst he
        go_wp2_with fail
        refine (HA.out _ HB6.out).mono ?_
        rintro e w7 ⟨rfl, hb7⟩
        have HB7 := Lib.hid (HB6.out.trans (hb7.mono HB6.out.size))
        clear hb7
        go_wp2
        go_ret
        exact ⟨rfl, HB7.out⟩
      · have heq : (y2 == y) = false := by simp [he]
        have hwh : T ≤ t ∧ makE x0 T x2 (t - T) = 0 ∧ y = makB x0 T mac x2 (t - T) := by
          rcases HW.out with h | h
          · exact absurd (h.trans HY2.out.symm).symm he
          · exact h
        obtain ⟨hTt, hmk, hy3⟩ := hwh
        have HX2 := Lib.hid (HX.out (t - T))
        rw [hmk, ← hy3] at HX2
        clear hmk hy3 he
        obtain ⟨z0, z1⟩ := cells2 HG06.out
        obtain ⟨m0, m1, m2, m3, m4, m5⟩ := cells6 HG16.out
        go_wp2_with fail
        refine (HX2.out _ HB6.out).mono ?_
        rintro e w7 ⟨A7, L7, C7, rfl, hl7, ho7, hb7⟩
        have HB7 := Lib.hid (HB6.out.trans (hb7.mono HB6.out.size))
        have HG07 := Lib.hid (heap_below HG06.out hb7)
        have tY := ho7.bs.txt w7 (Gr.refl _)
        have tC := (HO6.out.below hb7).txt w7 (Gr.refl _)
        clear hl7 ho7 hb7 HB6 HG06 HG16 HO6 tX tB z0 z1 m0 m1 m2 m3 m4 m5
        obtain ⟨z0, z1⟩ := cells2 HG07.out
        go_wp2_with fail
        refine (HA.out _ HB7.out).mono ?_
        rintro e w8 ⟨rfl, hb8⟩
        have HB8 := Lib.hid (HB7.out.trans (hb8.mono HB7.out.size))
        clear hb8
        go_wp2
        go_ret
        exact ⟨rfl, HB8.out⟩
    · rw [decide_eq_false hv]
      clear hv
      go_wp2_with fail
      refine (HA.out _ HB5.out).mono ?_
      rintro e w6 ⟨rfl, hb6⟩
      have HB6 := Lib.hid (HB5.out.trans (hb6.mono HB5.out.size))
      clear hb6
      go_wp2
      go_ret
      exact ⟨rfl, HB6.out⟩
  · go_wp2_with fail
    refine (HA.out _ HB4.out).mono ?_
    rintro e w6 ⟨rfl, hb6⟩
    have HB6 := Lib.hid (HB4.out.trans (hb6.mono HB4.out.size))
    clear hb6
    go_wp2
    go_ret
    exact ⟨rfl, HB6.out⟩
theorem walk (W : World) (hL : Laid W) (a0 : Option Addr) (n0 c0 : Nat) (l0 : List UInt8) (T : Int) (hn0 : l0.length = n0) (b0 : Bs W (.slice a0 n0 c0) l0) (m10 m11 m12 m13 m14 m15 : UInt8)
    (a2 : Option Addr) (n2 c2 : Nat) (l2 : List UInt8) (hn2 : l2.length = n2) (b2 : Bs W (.slice a2 n2 c2) l2) (m30 m31 m32 m33 m34 m35 : UInt8)
    (a4 : Option Addr) (n4 c4 : Nat) (l4 : List UInt8) (hn4 : l4.length = n4) (b4 : Bs W (.slice a4 n4 c4) l4) (s : Int) (ws : (Lit.int .i64 s).wf = true) (t : Int) (wt : (Lit.int .i64 t).wf = true) :
    Calls Tryd.prog 6 #[.agg #[.slice a0 n0 c0, .int .i64 T], .agg #[.int .u8 (m10.toNat : Int), .int .u8 (m11.toNat : Int), .int .u8 (m12.toNat : Int), .int .u8 (m13.toNat : Int), .int .u8 (m14.toNat : Int), .int .u8 (m15.toNat : Int)], .slice a2 n2 c2, .agg #[.int .u8 (m30.toNat : Int), .int .u8 (m31.toNat : Int), .int .u8 (m32.toNat : Int), .int .u8 (m33.toNat : Int), .int .u8 (m34.toNat : Int), .int .u8 (m35.toNat : Int)], .slice a4 n4 c4, .int .i64 s, .int .i64 t] W fun e w' => e = .returned (.bool true) ∧ Below W.heap.size W w' :=
  walk1 W hL a0 n0 c0 l0 T hn0 b0 _ _ _ _ _ _ [m10, m11, m12, m13, m14, m15] rfl a2 n2 c2 l2 hn2 b2 _ _ _ _ _ _ [m30, m31, m32, m33, m34, m35] rfl a4 n4 c4 l4 hn4 b4 s t

theorem own : ownKnob Tryd.prog.godebug = none := by kernel_rfl
theorem laidOut : laidOutB Tryd.prog = true := by kernel_rfl
theorem door_met (os : Os) (args : Array Value) : laidMetH Tryd.prog Rows.cookieWhoseRow.laid ((World.doorLaid Tryd.prog 400 os).forCall (fun _ _ => 0) ⟨#[], args, []⟩).memory :=
  laidMetH_of_parts3 (fuel := 8) (laidMet_of_run' 8 (by kernel_rfl) (by kernel_rfl)) (by kernel_rfl) (by kernel_rfl)
set_option maxRecDepth 100000 in
theorem lifted (os : Os) (started : os.Started) (H : Type) (enc : TypeId × Value → H) :
    ReturnsInHanded {} Tryd.checked os 6 .any (fun w args => (Rows.cookieWhoseSpec.pre enc Tryd.prog Tryd.f6 [] false w args ∧ laidMetH Tryd.prog Rows.cookieWhoseRow.laid w) ∧ sizedMet enc Tryd.prog Tryd.f6 (OpenSpec.ofChange Rows.cookieWhoseSpec) false w args) (Rows.cookieWhoseSpec.post enc Tryd.prog Tryd.f6 false true false false) := by
  refine returnsInHanded_of_change_and (C := Tryd.checked) (X := fun w _ => laidMetH Tryd.prog Rows.cookieWhoseRow.laid w) (fun _ _ _ hh h => h.of_heap hh) own started (by kernel_rfl) Tryd.func6
    (ChangeSpec.witness_shaped (enc := enc) (C := Tryd.checked) (os := os) (X := fun w _ => laidMetH Tryd.prog Rows.cookieWhoseRow.laid w) false (World.doorLaid Tryd.prog 400 os) #[.agg #[.slice none 0 0, .int .i64 0], .agg #[.int .u8 0, .int .u8 0, .int .u8 0, .int .u8 0, .int .u8 0, .int .u8 0], .slice none 0 0, .agg #[.int .u8 0, .int .u8 0, .int .u8 0, .int .u8 0, .int .u8 0, .int .u8 0], .slice none 0 0, .int .i64 0, .int .i64 0] 8 rfl (World.shaped_of_RefB (by kernel_rfl) (by kernel_rfl)) (by kernel_rfl) (by kernel_rfl) (by kernel_rfl) (door_met os _)) ?_
  intro W base args ds gs before hval0 hW _ _ hL _
  have hval : ∀ (j : Nat) t v, Tryd.f6.params[j]? = some t → args[j]? = some v → Value.okWide Tryd.prog W .any base t v := hval0
  have hW' := hW
  obtain ⟨p, q, hA0, hV, rfl, hfz, hnd⟩ := hW
  have hA : DataW.TrodAll enc Tryd.prog W 0 (fun _ => true) true Tryd.f6.params.toList args.toList ds p := hA0
  rw [Tryd.params6] at hA hval
  obtain ⟨v0, vs0, d0, ds0, p0, q0, hargs, rfl, rfl, h0, r0⟩ := trodAll_cons hA
  obtain ⟨v1, vs1, d1, ds1, p1, q1, rfl, rfl, rfl, h1, r1⟩ := trodAll_cons r0
  obtain ⟨v2, vs2, d2, ds2, p2, q2, rfl, rfl, rfl, h2, r2⟩ := trodAll_cons r1
  obtain ⟨v3, vs3, d3, ds3, p3, q3, rfl, rfl, rfl, h3, r3⟩ := trodAll_cons r2
  obtain ⟨v4, vs4, d4, ds4, p4, q4, rfl, rfl, rfl, h4, r4⟩ := trodAll_cons r3
  obtain ⟨v5, vs5, d5, ds5, p5, q5, rfl, rfl, rfl, h5, r5⟩ := trodAll_cons r4
  obtain ⟨v6, vs6, d6, ds6, p6, q6, rfl, rfl, rfl, h6, r6⟩ := trodAll_cons r5
  obtain ⟨rfl, rfl, rfl⟩ := trodAll_nil r6
  obtain rfl : args = #[v0, v1, v2, v3, v4, v5, v6] := by cases args; simp_all
  obtain ⟨rfl, rfl⟩ := trodVars_none hV
  have k0 := h0
  have lt0 : ∀ x ∈ p0, x.block < W.heap.size := by obtain ⟨m, hm⟩ := k0; exact DataW.trod_lt m _ _ _ hm
  obtain ⟨a0, n0, c0, l0, T0, rfl, hn0, b0⟩ := open_conf Tryd.underlying24 ⟨rfl, rfl⟩ Tryd.underlying22 Tryd.underlying3 Tryd.underlying5 ⟨by kernel_rfl, by kernel_rfl, by kernel_rfl, by kernel_rfl⟩ (hval 0 24 v0 rfl rfl) h0
  have k1 := h1
  have lt1 : ∀ x ∈ p1, x.block < W.heap.size := by obtain ⟨m, hm⟩ := k1; exact DataW.trod_lt m _ _ _ hm
  obtain ⟨m10, m11, m12, m13, m14, m15, rfl⟩ := open_mac Tryd.underlying26 Tryd.underlying5 (by kernel_rfl) (by kernel_rfl) (hval 1 26 v1 rfl rfl) h1
  have k2 := h2
  have lt2 : ∀ x ∈ p2, x.block < W.heap.size := by obtain ⟨m, hm⟩ := k2; exact DataW.trod_lt m _ _ _ hm
  obtain ⟨a2, n2, c2, l2, rfl, hn2, b2⟩ := open_bytes Tryd.underlying22 Tryd.underlying5 (by kernel_rfl) (hval 2 22 v2 rfl rfl) h2
  have k3 := h3
  have lt3 : ∀ x ∈ p3, x.block < W.heap.size := by obtain ⟨m, hm⟩ := k3; exact DataW.trod_lt m _ _ _ hm
  obtain ⟨m30, m31, m32, m33, m34, m35, rfl⟩ := open_mac Tryd.underlying26 Tryd.underlying5 (by kernel_rfl) (by kernel_rfl) (hval 3 26 v3 rfl rfl) h3
  have k4 := h4
  have lt4 : ∀ x ∈ p4, x.block < W.heap.size := by obtain ⟨m, hm⟩ := k4; exact DataW.trod_lt m _ _ _ hm
  obtain ⟨a4, n4, c4, l4, rfl, hn4, b4⟩ := open_bytes Tryd.underlying22 Tryd.underlying5 (by kernel_rfl) (hval 4 22 v4 rfl rfl) h4
  have k5 := h5
  have lt5 : ∀ x ∈ p5, x.block < W.heap.size := by obtain ⟨m, hm⟩ := k5; exact DataW.trod_lt m _ _ _ hm
  obtain ⟨a5, rfl, rfl, rfl, w5⟩ := open_int Tryd.underlying3 (hval 5 3 v5 rfl rfl) h5
  have k6 := h6
  have lt6 : ∀ x ∈ p6, x.block < W.heap.size := by obtain ⟨m, hm⟩ := k6; exact DataW.trod_lt m _ _ _ hm
  obtain ⟨a6, rfl, rfl, rfl, w6⟩ := open_int Tryd.underlying3 (hval 6 3 v6 rfl rfl) h6
  clear hA0 hval0
  refine (walk W (of_laid hL) a0 n0 c0 l0 T0 hn0 b0 m10 m11 m12 m13 m14 m15 a2 n2 c2 l2 hn2 b2 m30 m31 m32 m33 m34 m35 a4 n4 c4 l4 hn4 b4 a5 w5 a6 w6).mono fun e W' ⟨he, bel⟩ => ?_
  subst he
  exact ⟨_, rfl, _, _, _, [], _, [], hW', trodAll_mk1 (shut_bool Tryd.underlying4 _), (trodAll_cons_mk (Below.trod laidOut (by kernel_rfl) (of_decide_eq_true (by kernel_rfl)) k0 bel lt0) (trodAll_cons_mk (Below.trod laidOut (by kernel_rfl) (of_decide_eq_true (by kernel_rfl)) k1 bel lt1) (trodAll_cons_mk (Below.trod laidOut (by kernel_rfl) (of_decide_eq_true (by kernel_rfl)) k2 bel lt2) (trodAll_cons_mk (Below.trod laidOut (by kernel_rfl) (of_decide_eq_true (by kernel_rfl)) k3 bel lt3) (trodAll_cons_mk (Below.trod laidOut (by kernel_rfl) (of_decide_eq_true (by kernel_rfl)) k4 bel lt4) (trodAll_cons_mk (Below.trod laidOut (by kernel_rfl) (of_decide_eq_true (by kernel_rfl)) k5 bel lt5) (trodAll_cons_mk (Below.trod laidOut (by kernel_rfl) (of_decide_eq_true (by kernel_rfl)) k6 bel lt6) trodAll_mk0))))))), rfl, bel.frame _, fun h => by cases h⟩
theorem over : Rows.cookieWhoseRow.holds Tryd.pinned (OpenSpec.ofChange Rows.cookieWhoseSpec) :=
  OpenClaim.holds_of_wide 6 Tryd.f6 rfl rfl rfl rfl rfl rfl rfl ⟨rfl, rfl, rfl, rfl, rfl⟩ rfl rfl rfl rfl rfl (by kernel_rfl) Tryd.func6 (by kernel_rfl)
    (of_decide_eq_true (by kernel_rfl)) (by unfold Func.isWrapper; first | (rw [if_pos (by decide +kernel)]; kernel_rfl) | (rw [if_neg (by decide +kernel)]; exact ⟨rfl, rfl⟩))
    (fun os started H enc _ => lifted os started H enc)
/-- The statement: the tied card. -/
theorem proved : Rows.CookieWhoseCardSaid :=
  Claim7.holds_tied_plain_at .later [] [.data] true (true, "e0b5568464095cee92c031e4d115e71051833836384ac3f483c2e2946d46d597") false over (fun _ h => by cases h) (by kernel_rfl) (fun _ h => by cases h) cookieWhose_row_tie rfl ⟨rfl, rfl⟩ (by kernel_rfl) rfl
    (fun f fn hf hfn => by
      obtain rfl : f = 6 := Option.some.inj ((show Tryd.prog.funcNamed "concierge/conciergelaw09.CookieWhose" = some 6 by kernel_rfl).symm.trans hf) |>.symm
      obtain rfl : fn = Tryd.f6 := (Option.some.inj (Tryd.func6.symm.trans hfn)).symm
      exact ⟨by kernel_rfl, fun j t ht => by
        rw [Tryd.params6] at ht
        have hm : t ∈ [24, 26, 22, 26, 22, 3, 3] := by simpa using Array.mem_of_getElem? ht
        have hall : ([24, 26, 22, 26, 22, 3, 3].all fun u => !Tryd.prog.wantsStandIn u) = true := by kernel_rfl
        exact (show Tryd.prog.wantsStandIn t = false by simpa using List.all_eq_true.1 hall t hm)⟩)
    (by kernel_rfl)
end Go.Proofs.YtjlacialbfhjcaaDoor.cookieWhose
