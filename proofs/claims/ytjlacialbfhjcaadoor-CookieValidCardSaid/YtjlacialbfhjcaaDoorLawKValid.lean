/-
  For all settings (of the secret its first 70 bytes), every address, any two slices of bytes (their first 1600 bytes) and every tick cookie.Valid answers as the document does (conciergelaw09.CookieValid answers true). The listed table of constants is tied to the program's text. No condition.
-/
import Derived.Test.YtjlacialbfhjcaaDoorCkJ
import Derived.Test.YtjlacialbfhjcaaDoorOpenK
import Derived.Test.YtjlacialbfhjcaaDoorShaL
import Derived.ProofKit
import Derived.OpenShut
import Derived.ShutString
import Derived.ChangeOld
import Derived.SevenTiedAt
namespace Go.Proofs.YtjlacialbfhjcaaDoor.cookieValid
open Go.ChangeShapes Go.WideShapes Go.ChangeAt Go.RowKit
open Go.ChangeMaps (open_string shut_string)
open Go.Proofs.YtjlacialbfhjcaaDoor.Ck
set_option linter.unusedVariables false
set_option linter.unusedSimpArgs false

set_option maxRecDepth 20000 in
set_option maxHeartbeats 4000000 in
theorem walk1 (W : World) (hL : Laid W) (a0 : Option Addr) (n0 c0 : Nat) (l0 : List UInt8) (T : Int) (hn0 : l0.length = n0) (b0 : Bs W (.slice a0 n0 c0) l0) (v0 v1 v2 v3 v4 v5 : Value) (mac : List UInt8) (hm : mac.map u8v = [v0, v1, v2, v3, v4, v5])
    (a2 : Option Addr) (n2 c2 : Nat) (l2 : List UInt8) (hn2 : l2.length = n2) (b2 : Bs W (.slice a2 n2 c2) l2) (a3 : Option Addr) (n3 c3 : Nat) (l3 : List UInt8) (hn3 : l3.length = n3) (b3 : Bs W (.slice a3 n3 c3) l3) (t : Int) :
    Calls Tryd.prog 4 #[.agg #[.slice a0 n0 c0, .int .i64 T], .agg #[v0, v1, v2, v3, v4, v5], .slice a2 n2 c2, .slice a3 n3 c3, .int .i64 t] W fun e w' => e = .returned (.bool true) ∧ Below W.heap.size W w' := by
  obtain ⟨k0, x0, hk0, hx0, u0, hc0⟩ := light_in T hn0 b0
  obtain ⟨k2, x2, hk2, hx2, u2, hc2⟩ := cut_in hn2 b2
  obtain ⟨k3, x3, hk3, hx3, u3, hc3⟩ := cut_in hn3 b3
  have HC0 := Lib.hid hc0
  have HC2 := Lib.hid hc2
  have HC3 := Lib.hid hc3
  have HS := Lib.hid (fun (w : World) (g : Below W.heap.size W w) => valid_any a0 k0 c0 x0 hx0 T t a2 k2 c2 x2 hx2 a3 k3 c3 x3 hx3 v0 v1 v2 v3 v4 v5 mac hm w (hL.below g) (u0.below g) (u2.below g) (u3.below g))
  have HR := Lib.hid (fun (w : World) (g : Below W.heap.size W w) => rvalid_any a0 k0 c0 x0 hx0 T t a2 k2 c2 x2 hx2 a3 k3 c3 x3 hx3 v0 v1 v2 v3 v4 v5 mac hm w (u0.below g) (u2.below g) (u3.below g))
  have HA := Lib.hid (fun (w : World) (g : Below W.heap.size W w) => awake_any w (hL.below g))
  obtain ⟨r, hr⟩ : ∃ r, r = decide (valid x0 T mac x2 x3 t) := ⟨_, rfl⟩
  rw [← hr] at HS HR
  have HB1 : Hid (Below W.heap.size W ((W.alloc (.cells #[.slice a0 n0 c0, .int .i64 T] 24)).alloc (.cells #[v0, v1, v2, v3, v4, v5] 26))) := boxed_two _ _ _
  have HG0 : Hid (((W.alloc (.cells #[.slice a0 n0 c0, .int .i64 T] 24)).alloc (.cells #[v0, v1, v2, v3, v4, v5] 26)).heap[W.heap.size]? = some (.cells #[.slice a0 n0 c0, .int .i64 T] 24 (0, 0))) := boxed_0 _ _ _
  have HG1 : Hid (((W.alloc (.cells #[.slice a0 n0 c0, .int .i64 T] 24)).alloc (.cells #[v0, v1, v2, v3, v4, v5] 26)).heap[W.heap.size + 1]? = some (.cells #[v0, v1, v2, v3, v4, v5] 26 (0, 0))) := boxed_1 _ _ _
  clear hn0 hn2 hn3 b0 b2 b3 u0 u2 u3 hc0 hc2 hc3 hk0 hk2 hk3 hx0 hx2 hx3 hL hr hm
  go_enter Tryd.func4, Tryd.ntmps4
  go_wp2_with fail
  generalize (W.alloc (.cells #[.slice a0 n0 c0, .int .i64 T] 24)).alloc (.cells #[v0, v1, v2, v3, v4, v5] 26) = w1 at HB1 HG0 HG1 ⊢
  refine (HC0.out _).mono ?_
  rintro e w2 ⟨rfl, hb2⟩
  have HB2 := Lib.hid (HB1.out.trans (hb2.mono HB1.out.size))
  have HG02 : Hid (w2.heap[W.heap.size]? = some (.cells [.slice a0 n0 c0, .int .i64 T].toArray 24 (0, 0))) := heap_below HG0.out hb2
  have HG12 := Lib.hid (heap_below HG1.out hb2)
  clear hb2 HB1 HG0 HG1
  go_wp2_with fail
  refine (HC2.out _).mono ?_
  rintro e w' ⟨rfl, rfl⟩
  go_wp2_with fail
  refine (HC3.out _).mono ?_
  rintro e w' ⟨rfl, rfl⟩
  go_wp2_with (with_reducible refine wpList_store_whole rfl 24 (.tmp 5) (.tmp 12) rfl W.heap.size [.slice a0 k0 c0, .int .i64 T] rfl rfl 24 _ HG02.out ?s1 ?s2 ?s3 ?_)
  case s1 => kernel_rfl
  case s2 => rfl
  case s3 => intro u hu; simp only [List.mem_cons, List.not_mem_nil, or_false] at hu; rcases hu with rfl | rfl <;> rfl
  intro w3 h3 ho3
  have HG03 : Hid (w3.heap[W.heap.size]? = some (.cells #[.slice a0 k0 c0, .int .i64 T] 24 (0, 0))) := h3
  have HG13 : Hid (w3.heap[W.heap.size + 1]? = some (.cells #[v0, v1, v2, v3, v4, v5] 26 (0, 0))) := by
    show _ = _
    rw [ho3.heap _ (Array.getElem?_eq_some_iff.1 HG12.out).1 (by omega)]; exact HG12.out
  have HB3 := Lib.hid (ho3.below _ _ (Nat.le_refl _) HB2.out)
  clear h3 ho3 HG02 HG12 HB2
  go_wp2_with fail
  refine wp_region_G 17 Gr (by kernel_rfl) ?_
  -- 0: slot 17
  refine wpG_take preGr (i := 0) (v := ?_) (by kernel_rfl) (some 17) (by kernel_rfl) rfl (by kernel_rfl) (by kernel_rfl) (by kernel_rfl) (fun _ _ _ h => h) (by rfl) (fun w' hw' => ?_) rfl ?_
  rotate_left
  · try have k0' := (cells2 (heap_below HG03.out ((Gr.drew w3).trans hw'))).1
    try have k1' := (cells2 (heap_below HG03.out ((Gr.drew w3).trans hw'))).2
    try have m0 := (cells6 (heap_below HG13.out ((Gr.drew w3).trans hw'))).1
    try have m1 := (cells6 (heap_below HG13.out ((Gr.drew w3).trans hw'))).2.1
    try have m2 := (cells6 (heap_below HG13.out ((Gr.drew w3).trans hw'))).2.2.1
    try have m3 := (cells6 (heap_below HG13.out ((Gr.drew w3).trans hw'))).2.2.2.1
    try have m4 := (cells6 (heap_below HG13.out ((Gr.drew w3).trans hw'))).2.2.2.2.1
    try have m5 := (cells6 (heap_below HG13.out ((Gr.drew w3).trans hw'))).2.2.2.2.2
    go_simp
    with_reducible rfl
  simp only [Act.put, List.setIfInBounds_toArray, List.set_cons_zero, List.set_cons_succ]
  -- 1: slot 18
  refine wpG_take preGr (i := 1) (v := ?_) (by kernel_rfl) (some 18) (by kernel_rfl) rfl (by kernel_rfl) (by kernel_rfl) (by kernel_rfl) (fun _ _ _ h => h) (by rfl) (fun w' hw' => ?_) rfl ?_
  rotate_left
  · try have k0' := (cells2 (heap_below HG03.out ((Gr.drew w3).trans hw'))).1
    try have k1' := (cells2 (heap_below HG03.out ((Gr.drew w3).trans hw'))).2
    try have m0 := (cells6 (heap_below HG13.out ((Gr.drew w3).trans hw'))).1
    try have m1 := (cells6 (heap_below HG13.out ((Gr.drew w3).trans hw'))).2.1
    try have m2 := (cells6 (heap_below HG13.out ((Gr.drew w3).trans hw'))).2.2.1
    try have m3 := (cells6 (heap_below HG13.out ((Gr.drew w3).trans hw'))).2.2.2.1
    try have m4 := (cells6 (heap_below HG13.out ((Gr.drew w3).trans hw'))).2.2.2.2.1
    try have m5 := (cells6 (heap_below HG13.out ((Gr.drew w3).trans hw'))).2.2.2.2.2
    go_simp
    with_reducible rfl
  simp only [Act.put, List.setIfInBounds_toArray, List.set_cons_zero, List.set_cons_succ]
  -- 2: slot 19
  refine wpG_take preGr (i := 2) (v := ?_) (by kernel_rfl) (some 19) (by kernel_rfl) rfl (by kernel_rfl) (by kernel_rfl) (by kernel_rfl) (fun _ _ _ h => h) (by rfl) (fun w' hw' => ?_) rfl ?_
  rotate_left
  · try have k0' := (cells2 (heap_below HG03.out ((Gr.drew w3).trans hw'))).1
    try have k1' := (cells2 (heap_below HG03.out ((Gr.drew w3).trans hw'))).2
    try have m0 := (cells6 (heap_below HG13.out ((Gr.drew w3).trans hw'))).1
    try have m1 := (cells6 (heap_below HG13.out ((Gr.drew w3).trans hw'))).2.1
    try have m2 := (cells6 (heap_below HG13.out ((Gr.drew w3).trans hw'))).2.2.1
    try have m3 := (cells6 (heap_below HG13.out ((Gr.drew w3).trans hw'))).2.2.2.1
    try have m4 := (cells6 (heap_below HG13.out ((Gr.drew w3).trans hw'))).2.2.2.2.1
    try have m5 := (cells6 (heap_below HG13.out ((Gr.drew w3).trans hw'))).2.2.2.2.2
    go_simp
    with_reducible rfl
  simp only [Act.put, List.setIfInBounds_toArray, List.set_cons_zero, List.set_cons_succ]
  -- 3: slot 20
  refine wpG_take preGr (i := 3) (v := ?_) (by kernel_rfl) (some 20) (by kernel_rfl) rfl (by kernel_rfl) (by kernel_rfl) (by kernel_rfl) (fun _ _ _ h => h) (by rfl) (fun w' hw' => ?_) rfl ?_
  rotate_left
  · try have k0' := (cells2 (heap_below HG03.out ((Gr.drew w3).trans hw'))).1
    try have k1' := (cells2 (heap_below HG03.out ((Gr.drew w3).trans hw'))).2
    try have m0 := (cells6 (heap_below HG13.out ((Gr.drew w3).trans hw'))).1
    try have m1 := (cells6 (heap_below HG13.out ((Gr.drew w3).trans hw'))).2.1
    try have m2 := (cells6 (heap_below HG13.out ((Gr.drew w3).trans hw'))).2.2.1
    try have m3 := (cells6 (heap_below HG13.out ((Gr.drew w3).trans hw'))).2.2.2.1
    try have m4 := (cells6 (heap_below HG13.out ((Gr.drew w3).trans hw'))).2.2.2.2.1
    try have m5 := (cells6 (heap_below HG13.out ((Gr.drew w3).trans hw'))).2.2.2.2.2
    go_simp
    with_reducible rfl
  simp only [Act.put, List.setIfInBounds_toArray, List.set_cons_zero, List.set_cons_succ]
  -- 4: slot 21
  refine wpG_take preGr (i := 4) (v := ?_) (by kernel_rfl) (some 21) (by kernel_rfl) rfl (by kernel_rfl) (by kernel_rfl) (by kernel_rfl) (fun _ _ _ h => h) (by rfl) (fun w' hw' => ?_) rfl ?_
  rotate_left
  · try have k0' := (cells2 (heap_below HG03.out ((Gr.drew w3).trans hw'))).1
    try have k1' := (cells2 (heap_below HG03.out ((Gr.drew w3).trans hw'))).2
    try have m0 := (cells6 (heap_below HG13.out ((Gr.drew w3).trans hw'))).1
    try have m1 := (cells6 (heap_below HG13.out ((Gr.drew w3).trans hw'))).2.1
    try have m2 := (cells6 (heap_below HG13.out ((Gr.drew w3).trans hw'))).2.2.1
    try have m3 := (cells6 (heap_below HG13.out ((Gr.drew w3).trans hw'))).2.2.2.1
    try have m4 := (cells6 (heap_below HG13.out ((Gr.drew w3).trans hw'))).2.2.2.2.1
    try have m5 := (cells6 (heap_below HG13.out ((Gr.drew w3).trans hw'))).2.2.2.2.2
    go_simp
    with_reducible rfl
  simp only [Act.put, List.setIfInBounds_toArray, List.set_cons_zero, List.set_cons_succ]
  -- 6: slot 23
  refine wpG_take preGr (i := 6) (v := ?_) (by kernel_rfl) (some 23) (by kernel_rfl) rfl (by kernel_rfl) (by kernel_rfl) (by kernel_rfl) (fun _ _ _ h => h) (by rfl) (fun w' hw' => ?_) rfl ?_
  rotate_left
  · try have k0' := (cells2 (heap_below HG03.out ((Gr.drew w3).trans hw'))).1
    try have k1' := (cells2 (heap_below HG03.out ((Gr.drew w3).trans hw'))).2
    try have m0 := (cells6 (heap_below HG13.out ((Gr.drew w3).trans hw'))).1
    try have m1 := (cells6 (heap_below HG13.out ((Gr.drew w3).trans hw'))).2.1
    try have m2 := (cells6 (heap_below HG13.out ((Gr.drew w3).trans hw'))).2.2.1
    try have m3 := (cells6 (heap_below HG13.out ((Gr.drew w3).trans hw'))).2.2.2.1
    try have m4 := (cells6 (heap_below HG13.out ((Gr.drew w3).trans hw'))).2.2.2.2.1
    try have m5 := (cells6 (heap_below HG13.out ((Gr.drew w3).trans hw'))).2.2.2.2.2
    go_simp
    with_reducible rfl
  simp only [Act.put, List.setIfInBounds_toArray, List.set_cons_zero, List.set_cons_succ]
  -- 7: slot 24
  refine wpG_take preGr (i := 7) (v := ?_) (by kernel_rfl) (some 24) (by kernel_rfl) rfl (by kernel_rfl) (by kernel_rfl) (by kernel_rfl) (fun _ _ _ h => h) (by rfl) (fun w' hw' => ?_) rfl ?_
  rotate_left
  · try have k0' := (cells2 (heap_below HG03.out ((Gr.drew w3).trans hw'))).1
    try have k1' := (cells2 (heap_below HG03.out ((Gr.drew w3).trans hw'))).2
    try have m0 := (cells6 (heap_below HG13.out ((Gr.drew w3).trans hw'))).1
    try have m1 := (cells6 (heap_below HG13.out ((Gr.drew w3).trans hw'))).2.1
    try have m2 := (cells6 (heap_below HG13.out ((Gr.drew w3).trans hw'))).2.2.1
    try have m3 := (cells6 (heap_below HG13.out ((Gr.drew w3).trans hw'))).2.2.2.1
    try have m4 := (cells6 (heap_below HG13.out ((Gr.drew w3).trans hw'))).2.2.2.2.1
    try have m5 := (cells6 (heap_below HG13.out ((Gr.drew w3).trans hw'))).2.2.2.2.2
    go_simp
    with_reducible rfl
  simp only [Act.put, List.setIfInBounds_toArray, List.set_cons_zero, List.set_cons_succ]
  -- 8: slot 25
  refine wpG_take preGr (i := 8) (v := ?_) (by kernel_rfl) (some 25) (by kernel_rfl) rfl (by kernel_rfl) (by kernel_rfl) (by kernel_rfl) (fun _ _ _ h => h) (by rfl) (fun w' hw' => ?_) rfl ?_
  rotate_left
  · try have k0' := (cells2 (heap_below HG03.out ((Gr.drew w3).trans hw'))).1
    try have k1' := (cells2 (heap_below HG03.out ((Gr.drew w3).trans hw'))).2
    try have m0 := (cells6 (heap_below HG13.out ((Gr.drew w3).trans hw'))).1
    try have m1 := (cells6 (heap_below HG13.out ((Gr.drew w3).trans hw'))).2.1
    try have m2 := (cells6 (heap_below HG13.out ((Gr.drew w3).trans hw'))).2.2.1
    try have m3 := (cells6 (heap_below HG13.out ((Gr.drew w3).trans hw'))).2.2.2.1
    try have m4 := (cells6 (heap_below HG13.out ((Gr.drew w3).trans hw'))).2.2.2.2.1
    try have m5 := (cells6 (heap_below HG13.out ((Gr.drew w3).trans hw'))).2.2.2.2.2
    go_simp
    with_reducible rfl
  simp only [Act.put, List.setIfInBounds_toArray, List.set_cons_zero, List.set_cons_succ]
  -- 9: slot 26
  refine wpG_take preGr (i := 9) (v := ?_) (by kernel_rfl) (some 26) (by kernel_rfl) rfl (by kernel_rfl) (by kernel_rfl) (by kernel_rfl) (fun _ _ _ h => h) (by rfl) (fun w' hw' => ?_) rfl ?_
  rotate_left
  · try have k0' := (cells2 (heap_below HG03.out ((Gr.drew w3).trans hw'))).1
    try have k1' := (cells2 (heap_below HG03.out ((Gr.drew w3).trans hw'))).2
    try have m0 := (cells6 (heap_below HG13.out ((Gr.drew w3).trans hw'))).1
    try have m1 := (cells6 (heap_below HG13.out ((Gr.drew w3).trans hw'))).2.1
    try have m2 := (cells6 (heap_below HG13.out ((Gr.drew w3).trans hw'))).2.2.1
    try have m3 := (cells6 (heap_below HG13.out ((Gr.drew w3).trans hw'))).2.2.2.1
    try have m4 := (cells6 (heap_below HG13.out ((Gr.drew w3).trans hw'))).2.2.2.2.1
    try have m5 := (cells6 (heap_below HG13.out ((Gr.drew w3).trans hw'))).2.2.2.2.2
    go_simp
    with_reducible rfl
  simp only [Act.put, List.setIfInBounds_toArray, List.set_cons_zero, List.set_cons_succ]
  -- 10: slot 27
  refine wpG_take preGr (i := 10) (v := ?_) (by kernel_rfl) (some 27) (by kernel_rfl) rfl (by kernel_rfl) (by kernel_rfl) (by kernel_rfl) (fun _ _ _ h => h) (by rfl) (fun w' hw' => ?_) rfl ?_
  rotate_left
  · try have k0' := (cells2 (heap_below HG03.out ((Gr.drew w3).trans hw'))).1
    try have k1' := (cells2 (heap_below HG03.out ((Gr.drew w3).trans hw'))).2
    try have m0 := (cells6 (heap_below HG13.out ((Gr.drew w3).trans hw'))).1
    try have m1 := (cells6 (heap_below HG13.out ((Gr.drew w3).trans hw'))).2.1
    try have m2 := (cells6 (heap_below HG13.out ((Gr.drew w3).trans hw'))).2.2.1
    try have m3 := (cells6 (heap_below HG13.out ((Gr.drew w3).trans hw'))).2.2.2.1
    try have m4 := (cells6 (heap_below HG13.out ((Gr.drew w3).trans hw'))).2.2.2.2.1
    try have m5 := (cells6 (heap_below HG13.out ((Gr.drew w3).trans hw'))).2.2.2.2.2
    go_simp
    with_reducible rfl
  simp only [Act.put, List.setIfInBounds_toArray, List.set_cons_zero, List.set_cons_succ]
  refine wpG_one (i := 5) rfl (by kernel_rfl) (by rfl) ?_
  go_simp
  refine (HS.out _ HB3.out.drew).mono ?_
  rintro e w4 ⟨rfl, hb4⟩
  refine ⟨hb4, ?_⟩
  have HB4 := Lib.hid (HB3.out.drew.trans (hb4.mono HB3.out.drew.size))
  clear hb4
  try simp only [Act.put, List.setIfInBounds_toArray, List.set_cons_zero, List.set_cons_succ]
  refine wpG_one (i := 11) rfl (by kernel_rfl) (by rfl) ?_
  go_simp
  refine (HR.out _ HB4.out).mono ?_
  rintro e w5 ⟨rfl, hb5⟩
  refine ⟨hb5, ?_⟩
  have HB5 := Lib.hid (HB4.out.trans (hb5.mono HB4.out.size))
  clear hb5
  try simp only [Act.put, List.setIfInBounds_toArray, List.set_cons_zero, List.set_cons_succ]
  -- 12: slot 29
  refine wpG_take preGr (i := 12) (v := ?_) (by kernel_rfl) (some 29) (by kernel_rfl) rfl (by kernel_rfl) (by kernel_rfl) (by kernel_rfl) (fun _ _ _ h => h) (by rfl) (fun w' hw' => ?_) rfl ?_
  rotate_left
  · try have k0' := (cells2 (heap_below HG03.out ((Gr.drew w3).trans hw'))).1
    try have k1' := (cells2 (heap_below HG03.out ((Gr.drew w3).trans hw'))).2
    try have m0 := (cells6 (heap_below HG13.out ((Gr.drew w3).trans hw'))).1
    try have m1 := (cells6 (heap_below HG13.out ((Gr.drew w3).trans hw'))).2.1
    try have m2 := (cells6 (heap_below HG13.out ((Gr.drew w3).trans hw'))).2.2.1
    try have m3 := (cells6 (heap_below HG13.out ((Gr.drew w3).trans hw'))).2.2.2.1
    try have m4 := (cells6 (heap_below HG13.out ((Gr.drew w3).trans hw'))).2.2.2.2.1
    try have m5 := (cells6 (heap_below HG13.out ((Gr.drew w3).trans hw'))).2.2.2.2.2
    go_simp
    with_reducible rfl
  simp only [Act.put, List.setIfInBounds_toArray, List.set_cons_zero, List.set_cons_succ]
  -- 13: slot 30
  refine wpG_take preGr (i := 13) (v := ?_) (by kernel_rfl) (some 30) (by kernel_rfl) rfl (by kernel_rfl) (by kernel_rfl) (by kernel_rfl) (fun _ _ _ h => h) (by rfl) (fun w' hw' => ?_) rfl ?_
  rotate_left
  · try have k0' := (cells2 (heap_below HG03.out ((Gr.drew w3).trans hw'))).1
    try have k1' := (cells2 (heap_below HG03.out ((Gr.drew w3).trans hw'))).2
    try have m0 := (cells6 (heap_below HG13.out ((Gr.drew w3).trans hw'))).1
    try have m1 := (cells6 (heap_below HG13.out ((Gr.drew w3).trans hw'))).2.1
    try have m2 := (cells6 (heap_below HG13.out ((Gr.drew w3).trans hw'))).2.2.1
    try have m3 := (cells6 (heap_below HG13.out ((Gr.drew w3).trans hw'))).2.2.2.1
    try have m4 := (cells6 (heap_below HG13.out ((Gr.drew w3).trans hw'))).2.2.2.2.1
    try have m5 := (cells6 (heap_below HG13.out ((Gr.drew w3).trans hw'))).2.2.2.2.2
    go_simp
    with_reducible rfl
  simp only [Act.put, List.setIfInBounds_toArray, List.set_cons_zero, List.set_cons_succ]
  refine wpG_one (i := 14) rfl (by kernel_rfl) (by rfl) ?_
  go_simp
  refine (HA.out _ HB5.out).mono ?_
  rintro e w6 ⟨rfl, hb6⟩
  refine ⟨hb6, ?_⟩
  have HB6 := Lib.hid (HB5.out.trans (hb6.mono HB5.out.size))
  clear hb6
  try simp only [Act.put, List.setIfInBounds_toArray, List.set_cons_zero, List.set_cons_succ]
  -- 15: slot 32
  refine wpG_take preGr (i := 15) (v := ?_) (by kernel_rfl) (some 32) (by kernel_rfl) rfl (by kernel_rfl) (by kernel_rfl) (by kernel_rfl) (fun _ _ _ h => h) (by rfl) (fun w' hw' => ?_) rfl ?_
  rotate_left
  · try have k0' := (cells2 (heap_below HG03.out ((Gr.drew w3).trans hw'))).1
    try have k1' := (cells2 (heap_below HG03.out ((Gr.drew w3).trans hw'))).2
    try have m0 := (cells6 (heap_below HG13.out ((Gr.drew w3).trans hw'))).1
    try have m1 := (cells6 (heap_below HG13.out ((Gr.drew w3).trans hw'))).2.1
    try have m2 := (cells6 (heap_below HG13.out ((Gr.drew w3).trans hw'))).2.2.1
    try have m3 := (cells6 (heap_below HG13.out ((Gr.drew w3).trans hw'))).2.2.2.1
    try have m4 := (cells6 (heap_below HG13.out ((Gr.drew w3).trans hw'))).2.2.2.2.1
    try have m5 := (cells6 (heap_below HG13.out ((Gr.drew w3).trans hw'))).2.2.2.2.2
    go_simp
    with_reducible rfl
  simp only [Act.put, List.setIfInBounds_toArray, List.set_cons_zero, List.set_cons_succ]
  -- 16: slot 10
  refine wpG_take preGr (i := 16) (v := ?_) (by kernel_rfl) (some 10) (by kernel_rfl) rfl (by kernel_rfl) (by kernel_rfl) (by kernel_rfl) (fun _ _ _ h => h) (by rfl) (fun w' hw' => ?_) rfl ?_
  rotate_left
  · try have k0' := (cells2 (heap_below HG03.out ((Gr.drew w3).trans hw'))).1
    try have k1' := (cells2 (heap_below HG03.out ((Gr.drew w3).trans hw'))).2
    try have m0 := (cells6 (heap_below HG13.out ((Gr.drew w3).trans hw'))).1
    try have m1 := (cells6 (heap_below HG13.out ((Gr.drew w3).trans hw'))).2.1
    try have m2 := (cells6 (heap_below HG13.out ((Gr.drew w3).trans hw'))).2.2.1
    try have m3 := (cells6 (heap_below HG13.out ((Gr.drew w3).trans hw'))).2.2.2.1
    try have m4 := (cells6 (heap_below HG13.out ((Gr.drew w3).trans hw'))).2.2.2.2.1
    try have m5 := (cells6 (heap_below HG13.out ((Gr.drew w3).trans hw'))).2.2.2.2.2
    go_simp
    with_reducible rfl
  simp only [Act.put, List.setIfInBounds_toArray, List.set_cons_zero, List.set_cons_succ]
  refine wpG_done (by kernel_rfl) ?_ _
  go_wp2
  go_ret
  exact ⟨rfl, HB6.out⟩
theorem walk (W : World) (hL : Laid W) (a0 : Option Addr) (n0 c0 : Nat) (l0 : List UInt8) (T : Int) (hn0 : l0.length = n0) (b0 : Bs W (.slice a0 n0 c0) l0) (m10 m11 m12 m13 m14 m15 : UInt8)
    (a2 : Option Addr) (n2 c2 : Nat) (l2 : List UInt8) (hn2 : l2.length = n2) (b2 : Bs W (.slice a2 n2 c2) l2) (a3 : Option Addr) (n3 c3 : Nat) (l3 : List UInt8) (hn3 : l3.length = n3) (b3 : Bs W (.slice a3 n3 c3) l3) (t : Int) (wt : (Lit.int .i64 t).wf = true) :
    Calls Tryd.prog 4 #[.agg #[.slice a0 n0 c0, .int .i64 T], .agg #[.int .u8 (m10.toNat : Int), .int .u8 (m11.toNat : Int), .int .u8 (m12.toNat : Int), .int .u8 (m13.toNat : Int), .int .u8 (m14.toNat : Int), .int .u8 (m15.toNat : Int)], .slice a2 n2 c2, .slice a3 n3 c3, .int .i64 t] W fun e w' => e = .returned (.bool true) ∧ Below W.heap.size W w' :=
  walk1 W hL a0 n0 c0 l0 T hn0 b0 _ _ _ _ _ _ [m10, m11, m12, m13, m14, m15] rfl a2 n2 c2 l2 hn2 b2 a3 n3 c3 l3 hn3 b3 t

theorem own : ownKnob Tryd.prog.godebug = none := by kernel_rfl
theorem laidOut : laidOutB Tryd.prog = true := by kernel_rfl
theorem door_met (os : Os) (args : Array Value) : laidMetH Tryd.prog Rows.cookieValidRow.laid ((World.doorLaid Tryd.prog 400 os).forCall (fun _ _ => 0) ⟨#[], args, []⟩).memory :=
  laidMetH_of_parts3 (fuel := 8) (laidMet_of_run' 8 (by kernel_rfl) (by kernel_rfl)) (by kernel_rfl) (by kernel_rfl)
set_option maxRecDepth 100000 in
theorem lifted (os : Os) (started : os.Started) (H : Type) (enc : TypeId × Value → H) :
    ReturnsInHanded {} Tryd.checked os 4 .any (fun w args => (Rows.cookieValidSpec.pre enc Tryd.prog Tryd.f4 [] false w args ∧ laidMetH Tryd.prog Rows.cookieValidRow.laid w) ∧ sizedMet enc Tryd.prog Tryd.f4 (OpenSpec.ofChange Rows.cookieValidSpec) false w args) (Rows.cookieValidSpec.post enc Tryd.prog Tryd.f4 false true false false) := by
  refine returnsInHanded_of_change_and (C := Tryd.checked) (X := fun w _ => laidMetH Tryd.prog Rows.cookieValidRow.laid w) (fun _ _ _ hh h => h.of_heap hh) own started (by kernel_rfl) Tryd.func4
    (ChangeSpec.witness_shaped (enc := enc) (C := Tryd.checked) (os := os) (X := fun w _ => laidMetH Tryd.prog Rows.cookieValidRow.laid w) false (World.doorLaid Tryd.prog 400 os) #[.agg #[.slice none 0 0, .int .i64 0], .agg #[.int .u8 0, .int .u8 0, .int .u8 0, .int .u8 0, .int .u8 0, .int .u8 0], .slice none 0 0, .slice none 0 0, .int .i64 0] 8 rfl (World.shaped_of_RefB (by kernel_rfl) (by kernel_rfl)) (by kernel_rfl) (by kernel_rfl) (by kernel_rfl) (door_met os _)) ?_
  intro W base args ds gs before hval0 hW _ _ hL _
  have hval : ∀ (j : Nat) t v, Tryd.f4.params[j]? = some t → args[j]? = some v → Value.okWide Tryd.prog W .any base t v := hval0
  have hW' := hW
  obtain ⟨p, q, hA0, hV, rfl, hfz, hnd⟩ := hW
  have hA : DataW.TrodAll enc Tryd.prog W 0 (fun _ => true) true Tryd.f4.params.toList args.toList ds p := hA0
  rw [Tryd.params4] at hA hval
  obtain ⟨v0, vs0, d0, ds0, p0, q0, hargs, rfl, rfl, h0, r0⟩ := trodAll_cons hA
  obtain ⟨v1, vs1, d1, ds1, p1, q1, rfl, rfl, rfl, h1, r1⟩ := trodAll_cons r0
  obtain ⟨v2, vs2, d2, ds2, p2, q2, rfl, rfl, rfl, h2, r2⟩ := trodAll_cons r1
  obtain ⟨v3, vs3, d3, ds3, p3, q3, rfl, rfl, rfl, h3, r3⟩ := trodAll_cons r2
  obtain ⟨v4, vs4, d4, ds4, p4, q4, rfl, rfl, rfl, h4, r4⟩ := trodAll_cons r3
  obtain ⟨rfl, rfl, rfl⟩ := trodAll_nil r4
  obtain rfl : args = #[v0, v1, v2, v3, v4] := by cases args; simp_all
  obtain ⟨rfl, rfl⟩ := trodVars_none hV
  have k0 := h0
  have lt0 : ∀ x ∈ p0, x.block < W.heap.size := by obtain ⟨m, hm⟩ := k0; exact DataW.trod_lt m _ _ _ hm
  obtain ⟨a0, n0, c0, l0, T0, rfl, hn0, b0⟩ := open_conf Tryd.underlying24 ⟨rfl, rfl⟩ Tryd.underlying22 Tryd.underlying3 Tryd.underlying5 ⟨by kernel_rfl, by kernel_rfl, by kernel_rfl, by kernel_rfl⟩ (hval 0 24 v0 rfl rfl) h0
  have k1 := h1
  have lt1 : ∀ x ∈ p1, x.block < W.heap.size := by obtain ⟨m, hm⟩ := k1; exact DataW.trod_lt m _ _ _ hm
  obtain ⟨m10, m11, m12, m13, m14, m15, rfl⟩ := open_mac Tryd.underlying26 Tryd.underlying5 (by kernel_rfl) (by kernel_rfl) (hval 1 26 v1 rfl rfl) h1
  have k2 := h2
  have lt2 : ∀ x ∈ p2, x.block < W.heap.size := by obtain ⟨m, hm⟩ := k2; exact DataW.trod_lt m _ _ _ hm
  obtain ⟨a2, n2, c2, l2, rfl, hn2, b2⟩ := open_bytes Tryd.underlying22 Tryd.underlying5 (by kernel_rfl) (hval 2 22 v2 rfl rfl) h2
  have k3 := h3
  have lt3 : ∀ x ∈ p3, x.block < W.heap.size := by obtain ⟨m, hm⟩ := k3; exact DataW.trod_lt m _ _ _ hm
  obtain ⟨a3, n3, c3, l3, rfl, hn3, b3⟩ := open_bytes Tryd.underlying22 Tryd.underlying5 (by kernel_rfl) (hval 3 22 v3 rfl rfl) h3
  have k4 := h4
  have lt4 : ∀ x ∈ p4, x.block < W.heap.size := by obtain ⟨m, hm⟩ := k4; exact DataW.trod_lt m _ _ _ hm
  obtain ⟨a4, rfl, rfl, rfl, w4⟩ := open_int Tryd.underlying3 (hval 4 3 v4 rfl rfl) h4
  clear hA0 hval0
  refine (walk W (of_laid hL) a0 n0 c0 l0 T0 hn0 b0 m10 m11 m12 m13 m14 m15 a2 n2 c2 l2 hn2 b2 a3 n3 c3 l3 hn3 b3 a4 w4).mono fun e W' ⟨he, bel⟩ => ?_
  subst he
  exact ⟨_, rfl, _, _, _, [], _, [], hW', trodAll_mk1 (shut_bool Tryd.underlying4 _), (trodAll_cons_mk (Below.trod laidOut (by kernel_rfl) (of_decide_eq_true (by kernel_rfl)) k0 bel lt0) (trodAll_cons_mk (Below.trod laidOut (by kernel_rfl) (of_decide_eq_true (by kernel_rfl)) k1 bel lt1) (trodAll_cons_mk (Below.trod laidOut (by kernel_rfl) (of_decide_eq_true (by kernel_rfl)) k2 bel lt2) (trodAll_cons_mk (Below.trod laidOut (by kernel_rfl) (of_decide_eq_true (by kernel_rfl)) k3 bel lt3) (trodAll_cons_mk (Below.trod laidOut (by kernel_rfl) (of_decide_eq_true (by kernel_rfl)) k4 bel lt4) trodAll_mk0))))), rfl, bel.frame _, fun h => by cases h⟩
theorem over : Rows.cookieValidRow.holds Tryd.pinned (OpenSpec.ofChange Rows.cookieValidSpec) :=
  OpenClaim.holds_of_wide 4 Tryd.f4 rfl rfl rfl rfl rfl rfl rfl ⟨rfl, rfl, rfl, rfl, rfl⟩ rfl rfl rfl rfl rfl (by kernel_rfl) Tryd.func4 (by kernel_rfl)
    (of_decide_eq_true (by kernel_rfl)) (by unfold Func.isWrapper; first | (rw [if_pos (by decide +kernel)]; kernel_rfl) | (rw [if_neg (by decide +kernel)]; exact ⟨rfl, rfl⟩))
    (fun os started H enc _ => lifted os started H enc)
/-- The statement: the tied card. -/
theorem proved : Rows.CookieValidCardSaid :=
  Claim7.holds_tied_plain_at .later [] [.data] true (true, "e0b5568464095cee92c031e4d115e71051833836384ac3f483c2e2946d46d597") false over (fun _ h => by cases h) (by kernel_rfl) (fun _ h => by cases h) cookieValid_row_tie rfl ⟨rfl, rfl⟩ (by kernel_rfl) rfl
    (fun f fn hf hfn => by
      obtain rfl : f = 4 := Option.some.inj ((show Tryd.prog.funcNamed "concierge/conciergelaw09.CookieValid" = some 4 by kernel_rfl).symm.trans hf) |>.symm
      obtain rfl : fn = Tryd.f4 := (Option.some.inj (Tryd.func4.symm.trans hfn)).symm
      exact ⟨by kernel_rfl, fun j t ht => by
        rw [Tryd.params4] at ht
        have hm : t ∈ [24, 26, 22, 22, 3] := by simpa using Array.mem_of_getElem? ht
        have hall : ([24, 26, 22, 22, 3].all fun u => !Tryd.prog.wantsStandIn u) = true := by kernel_rfl
        exact (show Tryd.prog.wantsStandIn t = false by simpa using List.all_eq_true.1 hall t hm)⟩)
    (by kernel_rfl)
end Go.Proofs.YtjlacialbfhjcaaDoor.cookieValid
