/-
  For all settings (of the secret its first 70 bytes), every address, every slice of bytes (its first 1600 bytes) and every tick a cookie that cookie.Make tells is valid at each tick of its epoch and of the next one, up to the last tick there is; what is told is one's own: overwritten, it changes neither what was handed in nor what is told again (conciergelaw09.CookieTime answers true). The listed table of constants is tied to the program's text. No condition.
-/
import Derived.Test.YtjlacialbfhjcaaDoorCkJ
import Derived.Test.YtjlacialbfhjcaaDoorCkK
import Derived.Test.YtjlacialbfhjcaaDoorOpenK
import Derived.Test.YtjlacialbfhjcaaDoorShaL
import Derived.ProofKit
import Derived.OpenShut
import Derived.ShutString
import Derived.ChangeOld
import Derived.SevenTiedAt
namespace Go.Proofs.YtjlacialbfhjcaaDoor.cookieTime
open Go.ChangeShapes Go.WideShapes Go.ChangeAt Go.RowKit
open Go.ChangeMaps (open_string shut_string)
open Go.Proofs.YtjlacialbfhjcaaDoor.Ck
set_option linter.unusedVariables false
set_option linter.unusedSimpArgs false

/-- The ticks behind the next epoch. -/
theorem end_range {T t q E : Int} (hT : 1 ≤ T) (hT2 : T ≤ 1099511627776) (ht : 0 ≤ t) (ht2 : t ≤ 1099511627776) (hq : q = t / T) (hE : E = (q + 2) * T) : 0 ≤ q ∧ q ≤ 1099511627776 ∧ t < E ∧ E ≤ 3298534883328 := by
  have h1 : t / T * T ≤ t := Int.ediv_mul_le _ (by omega)
  have h2 : t < (t / T + 1) * T := Int.lt_ediv_add_one_mul_self _ (by omega)
  have h3 : 0 ≤ t / T := Int.ediv_nonneg ht (by omega)
  have h4 : t / T ≤ t := Int.ediv_le_self _ ht
  rw [← hq] at h1 h2 h3 h4
  rw [Int.add_mul] at h2 hE
  omega
set_option maxRecDepth 20000 in
set_option maxHeartbeats 4000000 in
theorem walk1 (W : World) (hL : Laid W) (a0 : Option Addr) (n0 c0 : Nat) (l0 : List UInt8) (T : Int) (hn0 : l0.length = n0) (b0 : Bs W (.slice a0 n0 c0) l0) (v0 v1 v2 v3 v4 v5 : Value) (mac : List UInt8) (hm : mac.map u8v = [v0, v1, v2, v3, v4, v5])
    (a2 : Option Addr) (n2 c2 : Nat) (l2 : List UInt8) (hn2 : l2.length = n2) (b2 : Bs W (.slice a2 n2 c2) l2) (t : Int) (u : Int) (wu : (Lit.int .u64 u).wf = true) :
    Calls Tryd.prog 5 #[.agg #[.slice a0 n0 c0, .int .i64 T], .agg #[v0, v1, v2, v3, v4, v5], .slice a2 n2 c2, .int .i64 t, .int .u64 u] W fun e w' => e = .returned (.bool true) ∧ Below W.heap.size W w' := by
  obtain ⟨k0, x0, hk0, hx0, u0, hc0⟩ := light_in T hn0 b0
  obtain ⟨k2, x2, hk2, hx2, u2, hc2⟩ := cut_in hn2 b2
  have HC0 := Lib.hid hc0
  have HC2 := Lib.hid hc2
  have HS := Lib.hid (fun (w : World) (g : Below W.heap.size W w) => make_any a0 k0 c0 x0 hx0 T t a2 k2 c2 x2 hx2 v0 v1 v2 v3 v4 v5 mac hm w (hL.below g) (u0.below g) (u2.below g))
  have HVA := Lib.hid (fun (s : Int) (ac : Option Addr) (nc cc : Nat) (c : List UInt8) (hc : c.length = nc) (w : World) (g : Below W.heap.size W w) (hb : Bs w (.slice ac nc cc) c) => valid_any a0 k0 c0 x0 hx0 T s a2 k2 c2 x2 hx2 ac nc cc c hc v0 v1 v2 v3 v4 v5 mac hm w (hL.below g) (u0.below g) (u2.below g) hb)
  have HA := Lib.hid (fun (w : World) (g : Below W.heap.size W w) => awake_any w (hL.below g))
  have HT0 := Lib.hid u0.txt
  have HT2 := Lib.hid u2.txt
  have hu : 0 ≤ u ∧ u ≤ 18446744073709551615 := by simpa [Lit.wf, IntKind.min, IntKind.max, IntKind.signed, IntKind.bits] using wu
  unfold MRes at HS
  obtain ⟨y, hy⟩ : ∃ y, y = makB x0 T mac x2 t := ⟨_, rfl⟩
  obtain ⟨k, hk⟩ : ∃ k, k = makE x0 T x2 t := ⟨_, rfl⟩
  rw [← hy, ← hk] at HS
  have HK := Lib.hid hk
  have HY := Lib.hid hy
  have HB1 : Hid (Below W.heap.size W ((W.alloc (.cells #[.slice a0 n0 c0, .int .i64 T] 24)).alloc (.cells #[v0, v1, v2, v3, v4, v5] 26))) := boxed_two _ _ _
  have HG0 : Hid (((W.alloc (.cells #[.slice a0 n0 c0, .int .i64 T] 24)).alloc (.cells #[v0, v1, v2, v3, v4, v5] 26)).heap[W.heap.size]? = some (.cells #[.slice a0 n0 c0, .int .i64 T] 24 (0, 0))) := boxed_0 _ _ _
  have HG1 : Hid (((W.alloc (.cells #[.slice a0 n0 c0, .int .i64 T] 24)).alloc (.cells #[v0, v1, v2, v3, v4, v5] 26)).heap[W.heap.size + 1]? = some (.cells #[v0, v1, v2, v3, v4, v5] 26 (0, 0))) := boxed_1 _ _ _
  clear hn0 hn2 b0 b2 u0 u2 hc0 hc2 hk0 hk2 hx0 hx2 hL hm hy hk wu
  go_enter Tryd.func5, Tryd.ntmps5
  go_wp2_with fail
  generalize (W.alloc (.cells #[.slice a0 n0 c0, .int .i64 T] 24)).alloc (.cells #[v0, v1, v2, v3, v4, v5] 26) = w1 at HB1 HG0 HG1 ⊢
  refine (HC0.out _).mono ?_
  rintro e w2 ⟨rfl, hb2⟩
  have HB2 := Lib.hid (HB1.out.trans (hb2.mono HB1.out.size))
  have HG02 : Hid (w2.heap[W.heap.size]? = some (.cells [.slice a0 n0 c0, .int .i64 T].toArray 24 (0, 0))) := heap_below HG0.out hb2
  have HG12 := Lib.hid (heap_below HG1.out hb2)
  clear hb2 HB1 HG0 HG1
  go_wp2_with fail
  refine (HC2.out _).mono ?_
  rintro e w' ⟨rfl, rfl⟩
  go_wp2_with (with_reducible refine wpList_store_whole rfl 24 (.tmp 5) (.tmp 23) rfl W.heap.size [.slice a0 k0 c0, .int .i64 T] rfl rfl 24 _ HG02.out ?s1 ?s2 ?s3 ?_)
  case s1 => kernel_rfl
  case s2 => rfl
  case s3 => intro u hu; simp only [List.mem_cons, List.not_mem_nil, or_false] at hu; rcases hu with rfl | rfl <;> rfl
  intro w3 h3 ho3
  have HG03 : Hid (w3.heap[W.heap.size]? = some (.cells #[.slice a0 k0 c0, .int .i64 T] 24 (0, 0))) := h3
  have HG13 : Hid (w3.heap[W.heap.size + 1]? = some (.cells #[v0, v1, v2, v3, v4, v5] 26 (0, 0))) := by
    show _ = _
    rw [ho3.heap _ (Array.getElem?_eq_some_iff.1 HG12.out).1 (by omega)]; exact HG12.out
  have HB3 := Lib.hid (ho3.below _ _ (Nat.le_refl _) HB2.out)
  clear h3 ho3 HG02 HG12 HB2
  go_wp2_with fail
  have tU := (HT2.out.on HB3.out).on (Gr.drew w3)
  have tS := (HT0.out.on HB3.out).on (Gr.drew w3)
  unfold Txt at tU tS
  refine wp_region_G 7 Gr (by kernel_rfl) ?_
  -- 0: slot 26
  refine wpG_take preGr (i := 0) (v := ?_) (by kernel_rfl) (some 26) (by kernel_rfl) rfl (by kernel_rfl) (by kernel_rfl) (by kernel_rfl) (fun _ _ _ h => h) (by rfl) (fun w' hw' => ?_) rfl ?_
  rotate_left
  · have z0 := (cells2 (heap_below HG03.out ((Gr.drew w3).trans hw'))).1
    go_simp
    with_reducible rfl
  simp only [Act.put, List.setIfInBounds_toArray, List.set_cons_zero, List.set_cons_succ]
  -- 1: slot 27
  refine wpG_take preGr (i := 1) (v := ?_) (by kernel_rfl) (some 27) (by kernel_rfl) rfl (by kernel_rfl) (by kernel_rfl) (by kernel_rfl) (fun _ _ _ h => h) (by rfl) (fun w' hw' => ?_) rfl ?_
  rotate_left
  · have z0 := (cells2 (heap_below HG03.out ((Gr.drew w3).trans hw'))).1
    go_simp
    with_reducible rfl
  simp only [Act.put, List.setIfInBounds_toArray, List.set_cons_zero, List.set_cons_succ]
  -- 2: slot 28
  refine wpG_take preGr (i := 2) (v := ?_) (by kernel_rfl) (some 28) (by kernel_rfl) rfl (by kernel_rfl) (by kernel_rfl) (by kernel_rfl) (fun _ _ _ h => h) (by rfl) (fun w' hw' => ?_) rfl ?_
  rotate_left
  · have z0 := (cells2 (heap_below HG03.out ((Gr.drew w3).trans hw'))).1
    go_simp
    with_reducible rfl
  simp only [Act.put, List.setIfInBounds_toArray, List.set_cons_zero, List.set_cons_succ]
  -- 3: slot 29
  refine wpG_take preGr (i := 3) (v := ?_) (by kernel_rfl) (some 29) (by kernel_rfl) rfl (by kernel_rfl) (by kernel_rfl) (by kernel_rfl) (fun _ _ _ h => h) (by rfl) (fun w' hw' => ?_) rfl ?_
  rotate_left
  · have z0 := (cells2 (heap_below HG03.out ((Gr.drew w3).trans hw'))).1
    go_simp
    with_reducible rfl
  simp only [Act.put, List.setIfInBounds_toArray, List.set_cons_zero, List.set_cons_succ]
  -- 4: slot 30
  refine wpG_take preGr (i := 4) (v := ?_) (by kernel_rfl) (some 30) (by kernel_rfl) rfl (by kernel_rfl) (by kernel_rfl) (by kernel_rfl) (fun _ _ _ h => h) (by rfl) (fun w' hw' => ?_) rfl ?_
  rotate_left
  · have z0 := (cells2 (heap_below HG03.out ((Gr.drew w3).trans hw'))).1
    go_simp
    with_reducible rfl
  simp only [Act.put, List.setIfInBounds_toArray, List.set_cons_zero, List.set_cons_succ]
  -- 5: slot 11
  refine wpG_take preGr (i := 5) (v := ?_) (by kernel_rfl) (some 11) (by kernel_rfl) rfl (by kernel_rfl) (by kernel_rfl) (by kernel_rfl) (fun _ _ _ h => h) (by rfl) (fun w' hw' => ?_) rfl ?_
  rotate_left
  · have z0 := (cells2 (heap_below HG03.out ((Gr.drew w3).trans hw'))).1
    go_simp
    with_reducible rfl
  simp only [Act.put, List.setIfInBounds_toArray, List.set_cons_zero, List.set_cons_succ]
  -- 6: slot 12
  refine wpG_take preGr (i := 6) (v := ?_) (by kernel_rfl) (some 12) (by kernel_rfl) rfl (by kernel_rfl) (by kernel_rfl) (by kernel_rfl) (fun _ _ _ h => h) (by rfl) (fun w' hw' => ?_) rfl ?_
  rotate_left
  · have z0 := (cells2 (heap_below HG03.out ((Gr.drew w3).trans hw'))).1
    go_simp
    with_reducible rfl
  simp only [Act.put, List.setIfInBounds_toArray, List.set_cons_zero, List.set_cons_succ]
  refine wpG_done (by kernel_rfl) ?_ _
  clear tU tS
  have HB4 : Hid (Below W.heap.size W w3.drew) := HB3.out.drew
  have HG04 : Hid (w3.drew.heap[W.heap.size]? = some (.cells #[.slice a0 k0 c0, .int .i64 T] 24 (0, 0))) := HG03.out
  have HG14 : Hid (w3.drew.heap[W.heap.size + 1]? = some (.cells #[v0, v1, v2, v3, v4, v5] 26 (0, 0))) := HG13.out
  clear HB3 HG03 HG13
  generalize w3.drew = w4 at HB4 HG04 HG14 ⊢
  obtain ⟨z0, z1⟩ := cells2 HG04.out
  obtain ⟨m0, m1, m2, m3, m4, m5⟩ := cells6 HG14.out
  have HLT : Hid (W.heap.size + 1 < w4.heap.size) := (Array.getElem?_eq_some_iff.1 HG14.out).1
  go_wp2_with fail
  refine (HS.out _ HB4.out).mono ?_
  rintro e w5 ⟨A, L, C, rfl, hl, ho, hb5⟩
  have HB5 := Lib.hid (HB4.out.trans (hb5.mono HB4.out.size))
  have HG05 := Lib.hid (heap_below HG04.out hb5)
  have HG15 := Lib.hid (heap_below HG14.out hb5)
  have HO5 := Lib.hid ho
  have HLY := Lib.hid hl
  clear hl ho hb5 HB4 HG04 HG14 z0 z1 m0 m1 m2 m3 m4 m5
  obtain ⟨z0, z1⟩ := cells2 HG05.out
  obtain ⟨m0, m1, m2, m3, m4, m5⟩ := cells6 HG15.out
  by_cases h0 : k = 0
  · subst h0
    have hz := makE_zero HK.out.symm
    have htr := (epE_zero hz.1).2
    have hTr := ((okC_iff x0 T).1 (epE_zero hz.1).1).2
    obtain ⟨hT1, hT2⟩ := hTr
    obtain ⟨ht1, ht2⟩ := htr
    unfold top at ht2
    have hyc := HY.out
    rw [makB_yes HK.out.symm] at hyc
    have HL32 : Hid (y.length = 32) := by show _ = _; rw [hyc, cookL_length]
    obtain rfl : 32 = L := by have := HLY.out; have := HL32.out; omega
    obtain ⟨q, hq⟩ : ∃ q, q = t / T := ⟨_, rfl⟩
    obtain ⟨E, hE⟩ : ∃ E, E = (q + 2) * T := ⟨_, rfl⟩
    obtain ⟨hq0, hq1, hE1, hE2⟩ := end_range hT1 hT2 ht1 ht2 hq hE
    have e5 : Int.tdiv t T = q := by rw [Int.tdiv_eq_ediv_of_nonneg ht1, hq]
    have r1 : IntKind.i64.wrap q = q := IntWalk.i64_in _ (by omega)
    have r2 : IntKind.i64.wrap (q + 2) = q + 2 := IntWalk.i64_in _ (by omega)
    have r3 : IntKind.i64.wrap ((q + 2) * T) = E := by rw [← hE]; exact IntWalk.i64_in _ (by omega)
    have hTz : ¬ T = 0 := by omega
    have HE := Lib.hid hE
    have HQ := Lib.hid hq
    clear hz hyc hq hE
    go_wp2_with fail
    refine wp_region_G 9 Gr (by kernel_rfl) ?_
    -- 0: slot 47
    refine wpG_take preGr (i := 0) (v := ?_) (by kernel_rfl) (some 47) (by kernel_rfl) rfl (by kernel_rfl) (by kernel_rfl) (by kernel_rfl) (fun _ _ _ h => h) (by rfl) (fun w' hw' => ?_) rfl ?_
    rotate_left
    · have z1' := (cells2 (heap_below HG05.out ((Gr.drew w5).trans hw'))).2
      go_simp
      with_reducible rfl
    simp only [Act.put, List.setIfInBounds_toArray, List.set_cons_zero, List.set_cons_succ]
    -- 1: slot 48
    refine wpG_take preGr (i := 1) (v := ?_) (by kernel_rfl) (some 48) (by kernel_rfl) rfl (by kernel_rfl) (by kernel_rfl) (by kernel_rfl) (fun _ _ _ h => h) (by rfl) (fun w' hw' => ?_) rfl ?_
    rotate_left
    · have z1' := (cells2 (heap_below HG05.out ((Gr.drew w5).trans hw'))).2
      go_simp
      with_reducible rfl
    simp only [Act.put, List.setIfInBounds_toArray, List.set_cons_zero, List.set_cons_succ]
    -- 2: slot 49
    refine wpG_take preGr (i := 2) (v := ?_) (by kernel_rfl) (some 49) (by kernel_rfl) rfl (by kernel_rfl) (by kernel_rfl) (by kernel_rfl) (fun _ _ _ h => h) (by rfl) (fun w' hw' => ?_) rfl ?_
    rotate_left
    · have z1' := (cells2 (heap_below HG05.out ((Gr.drew w5).trans hw'))).2
      go_simp
      with_reducible rfl
    simp only [Act.put, List.setIfInBounds_toArray, List.set_cons_zero, List.set_cons_succ]
    -- 3: slot 50
    refine wpG_take preGr (i := 3) (v := ?_) (by kernel_rfl) (some 50) (by kernel_rfl) rfl (by kernel_rfl) (by kernel_rfl) (by kernel_rfl) (fun _ _ _ h => h) (by rfl) (fun w' hw' => ?_) rfl ?_
    rotate_left
    · have z1' := (cells2 (heap_below HG05.out ((Gr.drew w5).trans hw'))).2
      go_simp
      with_reducible rfl
    simp only [Act.put, List.setIfInBounds_toArray, List.set_cons_zero, List.set_cons_succ]
    -- 4: slot 51
    refine wpG_take preGr (i := 4) (v := ?_) (by kernel_rfl) (some 51) (by kernel_rfl) rfl (by kernel_rfl) (by kernel_rfl) (by kernel_rfl) (fun _ _ _ h => h) (by rfl) (fun w' hw' => ?_) rfl ?_
    rotate_left
    · have z1' := (cells2 (heap_below HG05.out ((Gr.drew w5).trans hw'))).2
      go_simp
      with_reducible rfl
    simp only [Act.put, List.setIfInBounds_toArray, List.set_cons_zero, List.set_cons_succ]
    -- 5: slot 52
    refine wpG_take preGr (i := 5) (v := ?_) (by kernel_rfl) (some 52) (by kernel_rfl) rfl (by kernel_rfl) (by kernel_rfl) (by kernel_rfl) (fun _ _ _ h => h) (by rfl) (fun w' hw' => ?_) rfl ?_
    rotate_left
    · have z1' := (cells2 (heap_below HG05.out ((Gr.drew w5).trans hw'))).2
      go_simp
      with_reducible rfl
    simp only [Act.put, List.setIfInBounds_toArray, List.set_cons_zero, List.set_cons_succ]
    -- 6: slot 53
    refine wpG_take preGr (i := 6) (v := ?_) (by kernel_rfl) (some 53) (by kernel_rfl) rfl (by kernel_rfl) (by kernel_rfl) (by kernel_rfl) (fun _ _ _ h => h) (by rfl) (fun w' hw' => ?_) rfl ?_
    rotate_left
    · have z1' := (cells2 (heap_below HG05.out ((Gr.drew w5).trans hw'))).2
      go_simp
      with_reducible rfl
    simp only [Act.put, List.setIfInBounds_toArray, List.set_cons_zero, List.set_cons_succ]
    -- 7: slot 54
    refine wpG_take preGr (i := 7) (v := ?_) (by kernel_rfl) (some 54) (by kernel_rfl) rfl (by kernel_rfl) (by kernel_rfl) (by kernel_rfl) (fun _ _ _ h => h) (by rfl) (fun w' hw' => ?_) rfl ?_
    rotate_left
    · have z1' := (cells2 (heap_below HG05.out ((Gr.drew w5).trans hw'))).2
      go_simp
      with_reducible rfl
    simp only [Act.put, List.setIfInBounds_toArray, List.set_cons_zero, List.set_cons_succ]
    -- 8: slot 15
    refine wpG_take preGr (i := 8) (v := ?_) (by kernel_rfl) (some 15) (by kernel_rfl) rfl (by kernel_rfl) (by kernel_rfl) (by kernel_rfl) (fun _ _ _ h => h) (by rfl) (fun w' hw' => ?_) rfl ?_
    rotate_left
    · have z1' := (cells2 (heap_below HG05.out ((Gr.drew w5).trans hw'))).2
      go_simp
      with_reducible rfl
    simp only [Act.put, List.setIfInBounds_toArray, List.set_cons_zero, List.set_cons_succ]
    refine wpG_done (by kernel_rfl) ?_ _
    have HB6 : Hid (Below W.heap.size W w5.drew) := HB5.out.drew
    have HG06 : Hid (w5.drew.heap[W.heap.size]? = some (.cells #[.slice a0 k0 c0, .int .i64 T] 24 (0, 0))) := HG05.out
    have HG16 : Hid (w5.drew.heap[W.heap.size + 1]? = some (.cells #[v0, v1, v2, v3, v4, v5] 26 (0, 0))) := HG15.out
    have HO6 := Lib.hid (HO5.out.below (Gr.drew w5))
    clear z0 z1 m0 m1 m2 m3 m4 m5 HB5 HG05 HG15 HO5 r1 r2 r3 hTz e5
    generalize w5.drew = w6 at HB6 HG06 HG16 HO6 ⊢
    obtain ⟨d, hd⟩ : ∃ d, E - t = d := ⟨_, rfl⟩
    have hd1 : 0 < d := by omega
    have hd2 : d ≤ 3298534883328 := by omega
    have hd3 : ¬ d = 0 := by omega
    obtain ⟨r, hr⟩ : ∃ r, Int.tmod u d = r := ⟨_, rfl⟩
    have hr' : r = u % d := by rw [← hr, Int.tmod_eq_emod_of_nonneg hu.1]
    have hr0 : 0 ≤ r := by rw [hr']; exact Int.emod_nonneg _ (by omega)
    have hr1 : r < d := by rw [hr']; exact Int.emod_lt_of_pos _ hd1
    have w1' : IntKind.u64.wrap d = d := by rw [IntKind.wrap_u64]; omega
    have w2' : IntKind.i64.wrap r = r := IntWalk.i64_in _ (by omega)
    have HRD : Hid (t + r < E) := by show _ < _; omega
    clear hr'
    obtain ⟨hu0, hu1⟩ := hu
    by_cases hat : 1099511627776 < t + r
    · go_wp2_with fail
      refine (HA.out _ HB6.out).mono ?_
      rintro e w7 ⟨rfl, hb7⟩
      have HB7 := Lib.hid (HB6.out.trans (hb7.mono HB6.out.size))
      clear hb7
      go_wp2
      go_ret
      exact ⟨rfl, HB7.out⟩
    · have hat' : t + r ≤ 1099511627776 := by omega
      obtain ⟨z0, z1⟩ := cells2 HG06.out
      obtain ⟨m0, m1, m2, m3, m4, m5⟩ := cells6 HG16.out
      go_wp2_with fail
      have hv : Hid (decide (valid x0 T mac x2 y (t + r)) = true) := by
        refine decide_eq_true ?_
        rw [HY.out]
        refine valid_time HK.out.symm (by omega) ?_ (by unfold top; exact hat')
        have := HRD.out
        rw [HE.out, HQ.out] at this
        exact this
      refine (HVA.out (t + r) A 32 C y HL32.out w6 HB6.out HO6.out.bs).mono ?_
      rintro e w7 ⟨rfl, hb7⟩
      rw [hv.out]
      have HB7 := Lib.hid (HB6.out.trans (hb7.mono HB6.out.size))
      have HG07 := Lib.hid (heap_below HG06.out hb7)
      have HG17 := Lib.hid (heap_below HG16.out hb7)
      have HO7 := Lib.hid (HO6.out.below hb7)
      clear hv hb7 HB6 HG06 HG16 HO6 z0 z1 m0 m1 m2 m3 m4 m5
      have tB := HO7.out.bs.txt w7 (Gr.refl _)
      obtain ⟨g, hg, hgb⟩ := pick (w := w7) HO7.out HL32.out
      obtain ⟨rfl, hgl⟩ : A = some ⟨g, 0, none⟩ ∧ g < w7.heap.size := by
        rcases hg with ⟨h, _⟩ | h
        · omega
        · exact h
      have HGB : Hid (W.heap.size + 1 < g) := by have := HLT.out; show _ < _; omega
      have HF : Hid (FI w7 w7 g w4.heap.size (.slice (some ⟨g, 0, none⟩) 32 C) 32) := ⟨Only.refl _ _, y, HL32.out, HO7.out⟩
      clear hg hgb hgl HO7 HLT w1' w2' hr hd1 hd2 hd3 hr0 hr1 hat hat' hE1 hE2 hq0 hq1 hu0 hu1
      go_wp2_with fail
      clear tB
      go_wp2
      go_loopw [19] (fun iv wr => ∃ i : Nat, i ≤ 32 ∧ iv = .int .i64 (i : Int) ∧ Hid (FI w7 wr g w4.heap.size (.slice (some ⟨g, 0, none⟩) 32 C) 32)) (fun iv _ => 32 - (intOf iv).toNat)
      case atStart => exact ⟨0, Nat.zero_le _, rfl, HF⟩
      case round =>
        clear HF
        obtain ⟨i, him, rfl, HF⟩ := hrel
        by_cases hlt : i < 32
        · obtain ⟨⟨z, x, hu, hxy⟩, hf⟩ := FI.byte HF.out hlt
          have HNX := Lib.hid (FI.next (x := x) HF.out hlt)
          clear HF
          go_wp2
          go_roundw
          case rel => exact ⟨i + 1, by omega, by go_num, HNX⟩
          case measure => simp [intOf]; omega
        · obtain rfl : i = 32 := by omega
          have ho : Only g w7 wr := HF.out.1
          have HB8 := Lib.hid (ho.below _ _ (by have := HGB.out; omega) HB7.out)
          have HG08 : Hid (wr.heap[W.heap.size]? = some (.cells #[.slice a0 k0 c0, .int .i64 T] 24 (0, 0))) := by
            show _ = _
            rw [ho.heap _ (Array.getElem?_eq_some_iff.1 HG07.out).1 (by have := HGB.out; omega)]; exact HG07.out
          have HG18 : Hid (wr.heap[W.heap.size + 1]? = some (.cells #[v0, v1, v2, v3, v4, v5] 26 (0, 0))) := by
            show _ = _
            rw [ho.heap _ (Array.getElem?_eq_some_iff.1 HG17.out).1 (by have := HGB.out; omega)]; exact HG17.out
          clear HF ho HB7 HG07 HG17 hlt him
          obtain ⟨w8, hw8⟩ : ∃ x, x = wr := ⟨_, rfl⟩
          subst hw8
          obtain ⟨z0, z1⟩ := cells2 HG08.out
          obtain ⟨m0, m1, m2, m3, m4, m5⟩ := cells6 HG18.out
          go_wp2_with fail
          refine (HS.out _ HB8.out).mono ?_
          rintro e w9 ⟨A9, L9, C9, rfl, hl9, ho9, hb9⟩
          have HB9 := Lib.hid (HB8.out.trans (hb9.mono HB8.out.size))
          have HG09 := Lib.hid (heap_below HG08.out hb9)
          have tD := ho9.bs.txt w9 (Gr.refl _)
          have tU := HT2.out w9 HB9.out
          have tS := HT0.out w9 HB9.out
          clear hl9 ho9 hb9 HB8 HG08 HG18 z0 z1 m0 m1 m2 m3 m4 m5
          obtain ⟨z0, z1⟩ := cells2 HG09.out
          go_wp2_with fail
          refine (HA.out _ HB9.out).mono ?_
          rintro e w10 ⟨rfl, hb10⟩
          have HB10 := Lib.hid (HB9.out.trans (hb10.mono HB9.out.size))
          clear hb10 tD tU tS z0 z1
          go_wp2
          go_ret
          exact ⟨rfl, HB10.out⟩
  · have hy0 : y = [] := by rw [HY.out]; exact makB_no (by rw [← HK.out]; exact h0)
    obtain rfl : 0 = L := by have := HLY.out; rw [hy0] at this; simpa using this
    clear hy0
    go_wp2_with fail
    refine (HA.out _ HB5.out).mono ?_
    rintro e w6 ⟨rfl, hb6⟩
    have HB6 := Lib.hid (HB5.out.trans (hb6.mono HB5.out.size))
    clear hb6
    go_wp2
    go_ret
    exact ⟨rfl, HB6.out⟩
theorem walk (W : World) (hL : Laid W) (a0 : Option Addr) (n0 c0 : Nat) (l0 : List UInt8) (T : Int) (hn0 : l0.length = n0) (b0 : Bs W (.slice a0 n0 c0) l0) (m10 m11 m12 m13 m14 m15 : UInt8)
    (a2 : Option Addr) (n2 c2 : Nat) (l2 : List UInt8) (hn2 : l2.length = n2) (b2 : Bs W (.slice a2 n2 c2) l2) (t : Int) (wt : (Lit.int .i64 t).wf = true) (u : Int) (wu : (Lit.int .u64 u).wf = true) :
    Calls Tryd.prog 5 #[.agg #[.slice a0 n0 c0, .int .i64 T], .agg #[.int .u8 (m10.toNat : Int), .int .u8 (m11.toNat : Int), .int .u8 (m12.toNat : Int), .int .u8 (m13.toNat : Int), .int .u8 (m14.toNat : Int), .int .u8 (m15.toNat : Int)], .slice a2 n2 c2, .int .i64 t, .int .u64 u] W fun e w' => e = .returned (.bool true) ∧ Below W.heap.size W w' :=
  walk1 W hL a0 n0 c0 l0 T hn0 b0 _ _ _ _ _ _ [m10, m11, m12, m13, m14, m15] rfl a2 n2 c2 l2 hn2 b2 t u wu

theorem own : ownKnob Tryd.prog.godebug = none := by kernel_rfl
theorem laidOut : laidOutB Tryd.prog = true := by kernel_rfl
theorem door_met (os : Os) (args : Array Value) : laidMetH Tryd.prog Rows.cookieTimeRow.laid ((World.doorLaid Tryd.prog 400 os).forCall (fun _ _ => 0) ⟨#[], args, []⟩).memory :=
  laidMetH_of_parts3 (fuel := 8) (laidMet_of_run' 8 (by kernel_rfl) (by kernel_rfl)) (by kernel_rfl) (by kernel_rfl)
set_option maxRecDepth 100000 in
theorem lifted (os : Os) (started : os.Started) (H : Type) (enc : TypeId × Value → H) :
    ReturnsInHanded {} Tryd.checked os 5 .any (fun w args => (Rows.cookieTimeSpec.pre enc Tryd.prog Tryd.f5 [] false w args ∧ laidMetH Tryd.prog Rows.cookieTimeRow.laid w) ∧ sizedMet enc Tryd.prog Tryd.f5 (OpenSpec.ofChange Rows.cookieTimeSpec) false w args) (Rows.cookieTimeSpec.post enc Tryd.prog Tryd.f5 false true false false) := by
  refine returnsInHanded_of_change_and (C := Tryd.checked) (X := fun w _ => laidMetH Tryd.prog Rows.cookieTimeRow.laid w) (fun _ _ _ hh h => h.of_heap hh) own started (by kernel_rfl) Tryd.func5
    (ChangeSpec.witness_shaped (enc := enc) (C := Tryd.checked) (os := os) (X := fun w _ => laidMetH Tryd.prog Rows.cookieTimeRow.laid w) false (World.doorLaid Tryd.prog 400 os) #[.agg #[.slice none 0 0, .int .i64 0], .agg #[.int .u8 0, .int .u8 0, .int .u8 0, .int .u8 0, .int .u8 0, .int .u8 0], .slice none 0 0, .int .i64 0, .int .u64 0] 8 rfl (World.shaped_of_RefB (by kernel_rfl) (by kernel_rfl)) (by kernel_rfl) (by kernel_rfl) (by kernel_rfl) (door_met os _)) ?_
  intro W base args ds gs before hval0 hW _ _ hL _
  have hval : ∀ (j : Nat) t v, Tryd.f5.params[j]? = some t → args[j]? = some v → Value.okWide Tryd.prog W .any base t v := hval0
  have hW' := hW
  obtain ⟨p, q, hA0, hV, rfl, hfz, hnd⟩ := hW
  have hA : DataW.TrodAll enc Tryd.prog W 0 (fun _ => true) true Tryd.f5.params.toList args.toList ds p := hA0
  rw [Tryd.params5] at hA hval
  obtain ⟨v0, vs0, d0, ds0, p0, q0, hargs, rfl, rfl, h0, r0⟩ := trodAll_cons hA
  obtain ⟨v1, vs1, d1, ds1, p1, q1, rfl, rfl, rfl, h1, r1⟩ := trodAll_cons r0
  obtain ⟨v2, vs2, d2, ds2, p2, q2, rfl, rfl, rfl, h2, r2⟩ := trodAll_cons r1
  obtain ⟨v3, vs3, d3, ds3, p3, q3, rfl, rfl, rfl, h3, r3⟩ := trodAll_cons r2
  obtain ⟨v4, vs4, d4, ds4, p4, q4, rfl, rfl, rfl, h4, r4⟩ := trodAll_cons r3
  obtain ⟨rfl, rfl, rfl⟩ := trodAll_nil r4
  obtain rfl : args = #[v0, v1, v2, v3, v4] := by cases args; simp_all
  obtain ⟨rfl, rfl⟩ := trodVars_none hV
  have k0 := h0
  have lt0 : ∀ x ∈ p0, x.block < W.heap.size := by obtain ⟨m, hm⟩ := k0; exact DataW.trod_lt m _ _ _ hm
  obtain ⟨a0, n0, c0, l0, T0, rfl, hn0, b0⟩ := open_conf Tryd.underlying24 ⟨rfl, rfl⟩ Tryd.underlying22 Tryd.underlying3 Tryd.underlying5 ⟨by kernel_rfl, by kernel_rfl, by kernel_rfl, by kernel_rfl⟩ (hval 0 24 v0 rfl rfl) h0
  have k1 := h1
  have lt1 : ∀ x ∈ p1, x.block < W.heap.size := by obtain ⟨m, hm⟩ := k1; exact DataW.trod_lt m _ _ _ hm
  obtain ⟨m10, m11, m12, m13, m14, m15, rfl⟩ := open_mac Tryd.underlying26 Tryd.underlying5 (by kernel_rfl) (by kernel_rfl) (hval 1 26 v1 rfl rfl) h1
  have k2 := h2
  have lt2 : ∀ x ∈ p2, x.block < W.heap.size := by obtain ⟨m, hm⟩ := k2; exact DataW.trod_lt m _ _ _ hm
  obtain ⟨a2, n2, c2, l2, rfl, hn2, b2⟩ := open_bytes Tryd.underlying22 Tryd.underlying5 (by kernel_rfl) (hval 2 22 v2 rfl rfl) h2
  have k3 := h3
  have lt3 : ∀ x ∈ p3, x.block < W.heap.size := by obtain ⟨m, hm⟩ := k3; exact DataW.trod_lt m _ _ _ hm
  obtain ⟨a3, rfl, rfl, rfl, w3⟩ := open_int Tryd.underlying3 (hval 3 3 v3 rfl rfl) h3
  have k4 := h4
  have lt4 : ∀ x ∈ p4, x.block < W.heap.size := by obtain ⟨m, hm⟩ := k4; exact DataW.trod_lt m _ _ _ hm
  obtain ⟨a4, rfl, rfl, rfl, w4⟩ := open_int Tryd.underlying43 (hval 4 43 v4 rfl rfl) h4
  clear hA0 hval0
  refine (walk W (of_laid hL) a0 n0 c0 l0 T0 hn0 b0 m10 m11 m12 m13 m14 m15 a2 n2 c2 l2 hn2 b2 a3 w3 a4 w4).mono fun e W' ⟨he, bel⟩ => ?_
  subst he
  exact ⟨_, rfl, _, _, _, [], _, [], hW', trodAll_mk1 (shut_bool Tryd.underlying4 _), (trodAll_cons_mk (Below.trod laidOut (by kernel_rfl) (of_decide_eq_true (by kernel_rfl)) k0 bel lt0) (trodAll_cons_mk (Below.trod laidOut (by kernel_rfl) (of_decide_eq_true (by kernel_rfl)) k1 bel lt1) (trodAll_cons_mk (Below.trod laidOut (by kernel_rfl) (of_decide_eq_true (by kernel_rfl)) k2 bel lt2) (trodAll_cons_mk (Below.trod laidOut (by kernel_rfl) (of_decide_eq_true (by kernel_rfl)) k3 bel lt3) (trodAll_cons_mk (Below.trod laidOut (by kernel_rfl) (of_decide_eq_true (by kernel_rfl)) k4 bel lt4) trodAll_mk0))))), rfl, bel.frame _, fun h => by cases h⟩
theorem over : Rows.cookieTimeRow.holds Tryd.pinned (OpenSpec.ofChange Rows.cookieTimeSpec) :=
  OpenClaim.holds_of_wide 5 Tryd.f5 rfl rfl rfl rfl rfl rfl rfl ⟨rfl, rfl, rfl, rfl, rfl⟩ rfl rfl rfl rfl rfl (by kernel_rfl) Tryd.func5 (by kernel_rfl)
    (of_decide_eq_true (by kernel_rfl)) (by unfold Func.isWrapper; first | (rw [if_pos (by decide +kernel)]; kernel_rfl) | (rw [if_neg (by decide +kernel)]; exact ⟨rfl, rfl⟩))
    (fun os started H enc _ => lifted os started H enc)
/-- The statement: the tied card. -/
theorem proved : Rows.CookieTimeCardSaid :=
  Claim7.holds_tied_plain_at .later [] [.data] true (true, "e0b5568464095cee92c031e4d115e71051833836384ac3f483c2e2946d46d597") false over (fun _ h => by cases h) (by kernel_rfl) (fun _ h => by cases h) cookieTime_row_tie rfl ⟨rfl, rfl⟩ (by kernel_rfl) rfl
    (fun f fn hf hfn => by
      obtain rfl : f = 5 := Option.some.inj ((show Tryd.prog.funcNamed "concierge/conciergelaw09.CookieTime" = some 5 by kernel_rfl).symm.trans hf) |>.symm
      obtain rfl : fn = Tryd.f5 := (Option.some.inj (Tryd.func5.symm.trans hfn)).symm
      exact ⟨by kernel_rfl, fun j t ht => by
        rw [Tryd.params5] at ht
        have hm : t ∈ [24, 26, 22, 3, 43] := by simpa using Array.mem_of_getElem? ht
        have hall : ([24, 26, 22, 3, 43].all fun u => !Tryd.prog.wantsStandIn u) = true := by kernel_rfl
        exact (show Tryd.prog.wantsStandIn t = false by simpa using List.all_eq_true.1 hall t hm)⟩)
    (by kernel_rfl)
end Go.Proofs.YtjlacialbfhjcaaDoor.cookieTime
