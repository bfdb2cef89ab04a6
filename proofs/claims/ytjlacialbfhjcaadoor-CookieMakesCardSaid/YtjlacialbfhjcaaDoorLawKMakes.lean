/-
  For all settings (of the secret its first 70 bytes), every address, every slice of bytes (its first 1600 bytes) and every tick cookie.Check, Epoch and Make answer as the document does (conciergelaw09.CookieMakes answers true). The listed table of constants is tied to the program's text. No condition.
-/
import Derived.Test.YtjlacialbfhjcaaDoorCkJ
import Derived.Test.YtjlacialbfhjcaaDoorOpenK
import Derived.Test.YtjlacialbfhjcaaDoorShaL
import Derived.ProofKit
import Derived.OpenShut
import Derived.ShutString
import Derived.ChangeOld
import Derived.SevenTiedAt
namespace Go.Proofs.YtjlacialbfhjcaaDoor.cookieMakes
open Go.ChangeShapes Go.WideShapes Go.ChangeAt Go.RowKit
open Go.ChangeMaps (open_string shut_string)
open Go.Proofs.YtjlacialbfhjcaaDoor.Ck
set_option linter.unusedVariables false
set_option linter.unusedSimpArgs false

set_option maxRecDepth 20000 in
set_option maxHeartbeats 4000000 in
theorem walk1 (W : World) (hL : Laid W) (a0 : Option Addr) (n0 c0 : Nat) (l0 : List UInt8) (T : Int) (hn0 : l0.length = n0) (b0 : Bs W (.slice a0 n0 c0) l0) (v0 v1 v2 v3 v4 v5 : Value) (mac : List UInt8) (hm : mac.map u8v = [v0, v1, v2, v3, v4, v5])
    (a2 : Option Addr) (n2 c2 : Nat) (l2 : List UInt8) (hn2 : l2.length = n2) (b2 : Bs W (.slice a2 n2 c2) l2) (t : Int) :
    Calls Tryd.prog 3 #[.agg #[.slice a0 n0 c0, .int .i64 T], .agg #[v0, v1, v2, v3, v4, v5], .slice a2 n2 c2, .int .i64 t] W fun e w' => e = .returned (.bool true) ∧ Below W.heap.size W w' := by
  obtain ⟨k0, x0, hk0, hx0, u0, hc0⟩ := light_in T hn0 b0
  obtain ⟨k2, x2, hk2, hx2, u2, hc2⟩ := cut_in hn2 b2
  have HC0 := Lib.hid hc0
  have HC2 := Lib.hid hc2
  have HS := Lib.hid (fun (w : World) (g : Below W.heap.size W w) => make_any a0 k0 c0 x0 hx0 T t a2 k2 c2 x2 hx2 v0 v1 v2 v3 v4 v5 mac hm w (hL.below g) (u0.below g) (u2.below g))
  have HR := Lib.hid (fun (w : World) (g : Below W.heap.size W w) => rmake_any a0 k0 c0 x0 hx0 T t a2 k2 c2 x2 hx2 v0 v1 v2 v3 v4 v5 mac hm w (u0.below g) (u2.below g))
  have HE := Lib.hid (fun (w : World) => epoch_any a0 k0 c0 x0 hx0 T t w)
  have HF := Lib.hid (fun (w : World) => repoch_any a0 k0 c0 x0 hx0 T t w)
  have HK := Lib.hid (fun (w : World) => check_any a0 k0 c0 x0 hx0 T w)
  have HI := Lib.hid (fun (w : World) => is_any a0 k0 c0 x0 hx0 T w)
  have HA := Lib.hid (fun (w : World) (g : Below W.heap.size W w) => awake_any w (hL.below g))
  unfold MRes at HS
  unfold RRes at HR
  obtain ⟨y, hy⟩ : ∃ y, y = makB x0 T mac x2 t := ⟨_, rfl⟩
  obtain ⟨k, hk⟩ : ∃ k, k = makE x0 T x2 t := ⟨_, rfl⟩
  obtain ⟨q, hq⟩ : ∃ q, q = epN x0 T t := ⟨_, rfl⟩
  obtain ⟨p, hp⟩ : ∃ p, p = epE x0 T t := ⟨_, rfl⟩
  rw [← hy, ← hk] at HS HR
  rw [← hq, ← hp] at HE HF
  have hok : (ckE x0 T = 0 ∧ decide (okC x0 T) = true) ∨ (ckE x0 T = 90 ∧ decide (okC x0 T) = false) := by
    by_cases h : okC x0 T
    · exact .inl ⟨if_pos h, decide_eq_true h⟩
    · exact .inr ⟨if_neg h, decide_eq_false h⟩
  obtain ⟨ck, hck⟩ : ∃ c, c = ckE x0 T := ⟨_, rfl⟩
  obtain ⟨bk, hbk⟩ : ∃ b, b = decide (okC x0 T) := ⟨_, rfl⟩
  rw [← hck] at HK hok
  rw [← hbk] at HI hok
  have HOK := Lib.hid hok
  have HB1 : Hid (Below W.heap.size W ((W.alloc (.cells #[.slice a0 n0 c0, .int .i64 T] 24)).alloc (.cells #[v0, v1, v2, v3, v4, v5] 26))) := boxed_two _ _ _
  have HG0 : Hid (((W.alloc (.cells #[.slice a0 n0 c0, .int .i64 T] 24)).alloc (.cells #[v0, v1, v2, v3, v4, v5] 26)).heap[W.heap.size]? = some (.cells #[.slice a0 n0 c0, .int .i64 T] 24 (0, 0))) := boxed_0 _ _ _
  have HG1 : Hid (((W.alloc (.cells #[.slice a0 n0 c0, .int .i64 T] 24)).alloc (.cells #[v0, v1, v2, v3, v4, v5] 26)).heap[W.heap.size + 1]? = some (.cells #[v0, v1, v2, v3, v4, v5] 26 (0, 0))) := boxed_1 _ _ _
  clear hn0 hn2 b0 b2 u0 u2 hc0 hc2 hk0 hk2 hx0 hx2 hL hm hy hk hq hp hok hck hbk
  go_enter Tryd.func3, Tryd.ntmps3
  go_wp2_with fail
  generalize (W.alloc (.cells #[.slice a0 n0 c0, .int .i64 T] 24)).alloc (.cells #[v0, v1, v2, v3, v4, v5] 26) = w1 at HB1 HG0 HG1 ⊢
  refine (HC0.out _).mono ?_
  rintro e w2 ⟨rfl, hb2⟩
  have HB2 := Lib.hid (HB1.out.trans (hb2.mono HB1.out.size))
  have HG02 : Hid (w2.heap[W.heap.size]? = some (.cells [.slice a0 n0 c0, .int .i64 T].toArray 24 (0, 0))) := heap_below HG0.out hb2
  have HG12 := Lib.hid (heap_below HG1.out hb2)
  clear hb2 HB1 HG0 HG1
  go_wp2_with fail
  refine (HC2.out _).mono ?_
  rintro e w' ⟨rfl, rfl⟩
  go_wp2_with (with_reducible refine wpList_store_whole rfl 24 (.tmp 4) (.tmp 19) rfl W.heap.size [.slice a0 k0 c0, .int .i64 T] rfl rfl 24 _ HG02.out ?s1 ?s2 ?s3 ?_)
  case s1 => kernel_rfl
  case s2 => rfl
  case s3 => intro u hu; simp only [List.mem_cons, List.not_mem_nil, or_false] at hu; rcases hu with rfl | rfl <;> rfl
  intro w3 h3 ho3
  have HG03 : Hid (w3.heap[W.heap.size]? = some (.cells #[.slice a0 k0 c0, .int .i64 T] 24 (0, 0))) := h3
  have HG13 : Hid (w3.heap[W.heap.size + 1]? = some (.cells #[v0, v1, v2, v3, v4, v5] 26 (0, 0))) := by
    show _ = _
    rw [ho3.heap _ (Array.getElem?_eq_some_iff.1 HG12.out).1 (by omega)]; exact HG12.out
  have HB3 := Lib.hid (ho3.below _ _ (Nat.le_refl _) HB2.out)
  clear h3 ho3 HG02 HG12 HB2
  obtain ⟨z0, z1⟩ := cells2 HG03.out
  obtain ⟨m0, m1, m2, m3, m4, m5⟩ := cells6 HG13.out
  go_wp2_with fail
  refine (HS.out _ HB3.out).mono ?_
  rintro e w4 ⟨A4, L4, C4, rfl, hl4, ho4, hb4⟩
  have HB4 := Lib.hid (HB3.out.trans (hb4.mono HB3.out.size))
  have HG04 := Lib.hid (heap_below HG03.out hb4)
  have HG14 := Lib.hid (heap_below HG13.out hb4)
  have HT4 := Lib.hid ho4.bs.txt
  clear hl4 ho4 hb4 HB3 HG03 HG13 z0 z1 m0 m1 m2 m3 m4 m5
  obtain ⟨z0, z1⟩ := cells2 HG04.out
  obtain ⟨m0, m1, m2, m3, m4, m5⟩ := cells6 HG14.out
  go_wp2_with fail
  refine (HR.out _ HB4.out).mono ?_
  rintro e w5 ⟨A5, L5, C5, rfl, hl5, ho5, hb5⟩
  have HB5 := Lib.hid (HB4.out.trans (hb5.mono HB4.out.size))
  have HG05 := Lib.hid (heap_below HG04.out hb5)
  have HT45 := Lib.hid (HT4.out.on hb5)
  have HT5 := Lib.hid ho5.txt
  clear hl5 ho5 hb5 HB4 HG04 HG14 HT4 z0 z1 m0 m1 m2 m3 m4 m5
  obtain ⟨z0, z1⟩ := cells2 HG05.out
  go_wp2_with fail
  refine (HE.out _).mono ?_
  rintro e w6 ⟨rfl, hb6⟩
  have HB6 := Lib.hid (HB5.out.trans (hb6.mono HB5.out.size))
  have HG06 := Lib.hid (heap_below HG05.out hb6)
  have HT46 := Lib.hid (HT45.out.on hb6)
  have HT56 := Lib.hid (HT5.out.on hb6)
  clear hb6 HB5 HG05 HT45 HT5 z0 z1
  obtain ⟨z0, z1⟩ := cells2 HG06.out
  go_wp2_with fail
  refine (HF.out _).mono ?_
  rintro e w7 ⟨rfl, hb7⟩
  have HB7 := Lib.hid (HB6.out.trans (hb7.mono HB6.out.size))
  have HG07 := Lib.hid (heap_below HG06.out hb7)
  have HT47 := Lib.hid (HT46.out.on hb7)
  have HT57 := Lib.hid (HT56.out.on hb7)
  clear hb7 HB6 HG06 HT46 HT56 z0 z1
  obtain ⟨z0, z1⟩ := cells2 HG07.out
  go_wp2_with fail
  refine (HK.out _).mono ?_
  rintro e w8 ⟨rfl, hb8⟩
  have HB8 := Lib.hid (HB7.out.trans (hb8.mono HB7.out.size))
  have HG08 := Lib.hid (heap_below HG07.out hb8)
  have tA := HT47.out.on hb8 w8 (Gr.refl _)
  have tB := HT57.out.on hb8 w8 (Gr.refl _)
  clear hb8 HB7 HG07 HT47 HT57 z0 z1
  obtain ⟨z0, z1⟩ := cells2 HG08.out
  rcases HOK.out with ⟨rfl, rfl⟩ | ⟨rfl, rfl⟩
  · go_wp2_with fail
    refine (HI.out _).mono ?_
    rintro e w9 ⟨rfl, hb9⟩
    have HB9 := Lib.hid (HB8.out.trans (hb9.mono HB8.out.size))
    clear hb9 HB8 HG08 tA tB z0 z1
    go_wp2_with fail
    refine (HA.out _ HB9.out).mono ?_
    rintro e w10 ⟨rfl, hb10⟩
    have HB10 := Lib.hid (HB9.out.trans (hb10.mono HB9.out.size))
    clear hb10
    go_wp2
    go_ret
    exact ⟨rfl, HB10.out⟩
  · go_wp2_with fail
    refine (HI.out _).mono ?_
    rintro e w9 ⟨rfl, hb9⟩
    have HB9 := Lib.hid (HB8.out.trans (hb9.mono HB8.out.size))
    have HG09 := Lib.hid (heap_below HG08.out hb9)
    clear hb9 HB8 HG08 tA tB z0 z1
    obtain ⟨z0, z1⟩ := cells2 HG09.out
    go_wp2_with fail
    refine (HK.out _).mono ?_
    rintro e w10 ⟨rfl, hb10⟩
    have HB10 := Lib.hid (HB9.out.trans (hb10.mono HB9.out.size))
    clear hb10 HG09 z0 z1
    go_wp2_with fail
    refine (HA.out _ HB10.out).mono ?_
    rintro e w11 ⟨rfl, hb11⟩
    have HB11 := Lib.hid (HB10.out.trans (hb11.mono HB10.out.size))
    clear hb11
    go_wp2
    go_ret
    exact ⟨rfl, HB11.out⟩
theorem walk (W : World) (hL : Laid W) (a0 : Option Addr) (n0 c0 : Nat) (l0 : List UInt8) (T : Int) (hn0 : l0.length = n0) (b0 : Bs W (.slice a0 n0 c0) l0) (m10 m11 m12 m13 m14 m15 : UInt8)
    (a2 : Option Addr) (n2 c2 : Nat) (l2 : List UInt8) (hn2 : l2.length = n2) (b2 : Bs W (.slice a2 n2 c2) l2) (t : Int) (wt : (Lit.int .i64 t).wf = true) :
    Calls Tryd.prog 3 #[.agg #[.slice a0 n0 c0, .int .i64 T], .agg #[.int .u8 (m10.toNat : Int), .int .u8 (m11.toNat : Int), .int .u8 (m12.toNat : Int), .int .u8 (m13.toNat : Int), .int .u8 (m14.toNat : Int), .int .u8 (m15.toNat : Int)], .slice a2 n2 c2, .int .i64 t] W fun e w' => e = .returned (.bool true) ∧ Below W.heap.size W w' :=
  walk1 W hL a0 n0 c0 l0 T hn0 b0 _ _ _ _ _ _ [m10, m11, m12, m13, m14, m15] rfl a2 n2 c2 l2 hn2 b2 t

theorem own : ownKnob Tryd.prog.godebug = none := by kernel_rfl
theorem laidOut : laidOutB Tryd.prog = true := by kernel_rfl
theorem door_met (os : Os) (args : Array Value) : laidMetH Tryd.prog Rows.cookieMakesRow.laid ((World.doorLaid Tryd.prog 400 os).forCall (fun _ _ => 0) ⟨#[], args, []⟩).memory :=
  laidMetH_of_parts3 (fuel := 8) (laidMet_of_run' 8 (by kernel_rfl) (by kernel_rfl)) (by kernel_rfl) (by kernel_rfl)
set_option maxRecDepth 100000 in
theorem lifted (os : Os) (started : os.Started) (H : Type) (enc : TypeId × Value → H) :
    ReturnsInHanded {} Tryd.checked os 3 .any (fun w args => (Rows.cookieMakesSpec.pre enc Tryd.prog Tryd.f3 [] false w args ∧ laidMetH Tryd.prog Rows.cookieMakesRow.laid w) ∧ sizedMet enc Tryd.prog Tryd.f3 (OpenSpec.ofChange Rows.cookieMakesSpec) false w args) (Rows.cookieMakesSpec.post enc Tryd.prog Tryd.f3 false true false false) := by
  refine returnsInHanded_of_change_and (C := Tryd.checked) (X := fun w _ => laidMetH Tryd.prog Rows.cookieMakesRow.laid w) (fun _ _ _ hh h => h.of_heap hh) own started (by kernel_rfl) Tryd.func3
    (ChangeSpec.witness_shaped (enc := enc) (C := Tryd.checked) (os := os) (X := fun w _ => laidMetH Tryd.prog Rows.cookieMakesRow.laid w) false (World.doorLaid Tryd.prog 400 os) #[.agg #[.slice none 0 0, .int .i64 0], .agg #[.int .u8 0, .int .u8 0, .int .u8 0, .int .u8 0, .int .u8 0, .int .u8 0], .slice none 0 0, .int .i64 0] 8 rfl (World.shaped_of_RefB (by kernel_rfl) (by kernel_rfl)) (by kernel_rfl) (by kernel_rfl) (by kernel_rfl) (door_met os _)) ?_
  intro W base args ds gs before hval0 hW _ _ hL _
  have hval : ∀ (j : Nat) t v, Tryd.f3.params[j]? = some t → args[j]? = some v → Value.okWide Tryd.prog W .any base t v := hval0
  have hW' := hW
  obtain ⟨p, q, hA0, hV, rfl, hfz, hnd⟩ := hW
  have hA : DataW.TrodAll enc Tryd.prog W 0 (fun _ => true) true Tryd.f3.params.toList args.toList ds p := hA0
  rw [Tryd.params3] at hA hval
  obtain ⟨v0, vs0, d0, ds0, p0, q0, hargs, rfl, rfl, h0, r0⟩ := trodAll_cons hA
  obtain ⟨v1, vs1, d1, ds1, p1, q1, rfl, rfl, rfl, h1, r1⟩ := trodAll_cons r0
  obtain ⟨v2, vs2, d2, ds2, p2, q2, rfl, rfl, rfl, h2, r2⟩ := trodAll_cons r1
  obtain ⟨v3, vs3, d3, ds3, p3, q3, rfl, rfl, rfl, h3, r3⟩ := trodAll_cons r2
  obtain ⟨rfl, rfl, rfl⟩ := trodAll_nil r3
  obtain rfl : args = #[v0, v1, v2, v3] := by cases args; simp_all
  obtain ⟨rfl, rfl⟩ := trodVars_none hV
  have k0 := h0
  have lt0 : ∀ x ∈ p0, x.block < W.heap.size := by obtain ⟨m, hm⟩ := k0; exact DataW.trod_lt m _ _ _ hm
  obtain ⟨a0, n0, c0, l0, T0, rfl, hn0, b0⟩ := open_conf Tryd.underlying24 ⟨rfl, rfl⟩ Tryd.underlying22 Tryd.underlying3 Tryd.underlying5 ⟨by kernel_rfl, by kernel_rfl, by kernel_rfl, by kernel_rfl⟩ (hval 0 24 v0 rfl rfl) h0
  have k1 := h1
  have lt1 : ∀ x ∈ p1, x.block < W.heap.size := by obtain ⟨m, hm⟩ := k1; exact DataW.trod_lt m _ _ _ hm
  obtain ⟨m10, m11, m12, m13, m14, m15, rfl⟩ := open_mac Tryd.underlying26 Tryd.underlying5 (by kernel_rfl) (by kernel_rfl) (hval 1 26 v1 rfl rfl) h1
  have k2 := h2
  have lt2 : ∀ x ∈ p2, x.block < W.heap.size := by obtain ⟨m, hm⟩ := k2; exact DataW.trod_lt m _ _ _ hm
  obtain ⟨a2, n2, c2, l2, rfl, hn2, b2⟩ := open_bytes Tryd.underlying22 Tryd.underlying5 (by kernel_rfl) (hval 2 22 v2 rfl rfl) h2
  have k3 := h3
  have lt3 : ∀ x ∈ p3, x.block < W.heap.size := by obtain ⟨m, hm⟩ := k3; exact DataW.trod_lt m _ _ _ hm
  obtain ⟨a3, rfl, rfl, rfl, w3⟩ := open_int Tryd.underlying3 (hval 3 3 v3 rfl rfl) h3
  clear hA0 hval0
  refine (walk W (of_laid hL) a0 n0 c0 l0 T0 hn0 b0 m10 m11 m12 m13 m14 m15 a2 n2 c2 l2 hn2 b2 a3 w3).mono fun e W' ⟨he, bel⟩ => ?_
  subst he
  exact ⟨_, rfl, _, _, _, [], _, [], hW', trodAll_mk1 (shut_bool Tryd.underlying4 _), (trodAll_cons_mk (Below.trod laidOut (by kernel_rfl) (of_decide_eq_true (by kernel_rfl)) k0 bel lt0) (trodAll_cons_mk (Below.trod laidOut (by kernel_rfl) (of_decide_eq_true (by kernel_rfl)) k1 bel lt1) (trodAll_cons_mk (Below.trod laidOut (by kernel_rfl) (of_decide_eq_true (by kernel_rfl)) k2 bel lt2) (trodAll_cons_mk (Below.trod laidOut (by kernel_rfl) (of_decide_eq_true (by kernel_rfl)) k3 bel lt3) trodAll_mk0)))), rfl, bel.frame _, fun h => by cases h⟩
theorem over : Rows.cookieMakesRow.holds Tryd.pinned (OpenSpec.ofChange Rows.cookieMakesSpec) :=
  OpenClaim.holds_of_wide 3 Tryd.f3 rfl rfl rfl rfl rfl rfl rfl ⟨rfl, rfl, rfl, rfl, rfl⟩ rfl rfl rfl rfl rfl (by kernel_rfl) Tryd.func3 (by kernel_rfl)
    (of_decide_eq_true (by kernel_rfl)) (by unfold Func.isWrapper; first | (rw [if_pos (by decide +kernel)]; kernel_rfl) | (rw [if_neg (by decide +kernel)]; exact ⟨rfl, rfl⟩))
    (fun os started H enc _ => lifted os started H enc)
/-- The statement: the tied card. -/
theorem proved : Rows.CookieMakesCardSaid :=
  Claim7.holds_tied_plain_at .later [] [.data] true (true, "e0b5568464095cee92c031e4d115e71051833836384ac3f483c2e2946d46d597") false over (fun _ h => by cases h) (by kernel_rfl) (fun _ h => by cases h) cookieMakes_row_tie rfl ⟨rfl, rfl⟩ (by kernel_rfl) rfl
    (fun f fn hf hfn => by
      obtain rfl : f = 3 := Option.some.inj ((show Tryd.prog.funcNamed "concierge/conciergelaw09.CookieMakes" = some 3 by kernel_rfl).symm.trans hf) |>.symm
      obtain rfl : fn = Tryd.f3 := (Option.some.inj (Tryd.func3.symm.trans hfn)).symm
      exact ⟨by kernel_rfl, fun j t ht => by
        rw [Tryd.params3] at ht
        have hm : t ∈ [24, 26, 22, 3] := by simpa using Array.mem_of_getElem? ht
        have hall : ([24, 26, 22, 3].all fun u => !Tryd.prog.wantsStandIn u) = true := by kernel_rfl
        exact (show Tryd.prog.wantsStandIn t = false by simpa using List.all_eq_true.1 hall t hm)⟩)
    (by kernel_rfl)
end Go.Proofs.YtjlacialbfhjcaaDoor.cookieMakes
