/-
  For every control packet, every protocol with its bytes (the first 1600 bytes of each) and every number cp.Reject and cp.Protocol tell what the document tells: the packet, the same errors (conciergelaw07.CpRejects answers true). No conditions.
-/
import Derived.Test.YthllhdcdiidfpaaCpN
import Derived.Test.YthllhdcdiidfpaaCpK
import Derived.Test.YthllhdcdiidfpaaCpL
import Derived.Test.YthllhdcdiidfpaaOpenQ
import Derived.ProofKit
import Derived.OpenShut
import Derived.ChangeOld
namespace Go.Proofs.Ythllhdcdiidfpaa.cpRejects
open Go.ChangeShapes Go.WideShapes Go.ChangeAt Go.RowKit
set_option linter.unusedVariables false
set_option linter.unusedSimpArgs false

theorem same_len {w w' : World} {A A' : Option Addr} {L L' C C' : Nat} {l : List UInt8} (h : Bs w (.slice A L C) l) (h' : Bs w' (.slice A' L' C') l) : L' = L := by
  obtain ⟨_, _, _, e1, h1, _, _⟩ := h.sl
  obtain ⟨_, _, _, e2, h2, _, _⟩ := h'.sl
  simp only [Value.slice.injEq] at e1 e2
  rw [e1.2.1, e2.2.1, ← h1, ← h2]

set_option maxRecDepth 20000 in
set_option maxHeartbeats 4000000 in
theorem walk (W : World) (C0 S0 : Int) (a0 : Option Addr) (n0 c0 : Nat) (l0 : List UInt8) (hn0 : l0.length = n0) (b0 : Bs W (.slice a0 n0 c0) l0) (C1 : Int) (a1 : Option Addr) (n1 c1 : Nat) (l1 : List UInt8) (hn1 : l1.length = n1) (b1 : Bs W (.slice a1 n1 c1) l1) (id : Int) (wid : (Lit.int .i64 id).wf = true) :
    Calls Try.prog 5 #[.agg #[.int .i64 C0, .int .i64 S0, .slice a0 n0 c0], .agg #[.int .i64 C1, .slice a1 n1 c1], .int .i64 id] W fun e w' => e = .returned (.bool true) ∧ Below W.heap.size W w' := by
  obtain ⟨m0, x0, hm0, hx0, u0, hc0⟩ := cut7_in hn0 b0
  obtain ⟨m1, x1, hm1, hx1, u1, hc1⟩ := cut7_in hn1 b1
  have HC0 := Lib.hid hc0
  have HC1 := Lib.hid hc1
  have HX0 := Lib.hid hx0
  have HX1 := Lib.hid hx1
  have HB0 : Hid (Below W.heap.size W ((W.alloc (.cells #[.int .i64 C0, .int .i64 S0, .slice a0 n0 c0] 39)).alloc (.cells #[.int .i64 C1, .slice a1 n1 c1] 24))) := ((Below.refl _ _).alloc (Nat.le_refl _) _).alloc (by simp) _
  have HG0 : Hid (((W.alloc (.cells #[.int .i64 C0, .int .i64 S0, .slice a0 n0 c0] 39)).alloc (.cells #[.int .i64 C1, .slice a1 n1 c1] 24)).heap[W.heap.size]? = some (.cells #[.int .i64 C0, .int .i64 S0, .slice a0 n0 c0] 39)) := heap2_0' _ _ _
  have HP0 : Hid (((W.alloc (.cells #[.int .i64 C0, .int .i64 S0, .slice a0 n0 c0] 39)).alloc (.cells #[.int .i64 C1, .slice a1 n1 c1] 24)).heap[W.heap.size + 1]? = some (.cells #[.int .i64 C1, .slice a1 n1 c1] 24)) := heap2_1' _ _ _
  have HU0 := Lib.hid u0
  have HU1 := Lib.hid u1
  have AW := Lib.hid awake_any
  obtain ⟨wq, hwq⟩ : ∃ x, x = (W.alloc (.cells #[.int .i64 C0, .int .i64 S0, .slice a0 n0 c0] 39)).alloc (.cells #[.int .i64 C1, .slice a1 n1 c1] 24) := ⟨_, rfl⟩
  clear hn0 b0 u0 hc0 hx0 hn1 b1 u1 hc1 hx1 wid
  go_enter Try.func5, Try.ntmps5
  go_wp2_with fail
  rw [← hwq] at HB0 HG0 HP0 ⊢
  clear hwq
  refine wp_region_G 7 Gr (by kernel_rfl) ?_
  -- 0: slot 15
  refine wpG_take preGr (i := 0) (v := ?_) (by kernel_rfl) (some 15) (by kernel_rfl) rfl (by kernel_rfl) (by kernel_rfl) (by kernel_rfl) (fun _ _ _ h => h) (by rfl) (fun w' hw' => ?_) rfl ?_
  rotate_left
  · try have g1 := (cells3 (heap_below HG0.out ((Gr.drew wq).trans hw'))).2.2
    try have g2 := (cells2 (heap_below HP0.out ((Gr.drew wq).trans hw'))).2
    go_simp
    with_reducible rfl
  simp only [Act.put, List.setIfInBounds_toArray, List.set_cons_zero, List.set_cons_succ]
  -- 1: slot 16
  refine wpG_take preGr (i := 1) (v := ?_) (by kernel_rfl) (some 16) (by kernel_rfl) rfl (by kernel_rfl) (by kernel_rfl) (by kernel_rfl) (fun _ _ _ h => h) (by rfl) (fun w' hw' => ?_) rfl ?_
  rotate_left
  · try have g1 := (cells3 (heap_below HG0.out ((Gr.drew wq).trans hw'))).2.2
    try have g2 := (cells2 (heap_below HP0.out ((Gr.drew wq).trans hw'))).2
    go_simp
    with_reducible rfl
  simp only [Act.put, List.setIfInBounds_toArray, List.set_cons_zero, List.set_cons_succ]
  -- 3: slot 18
  refine wpG_take preGr (i := 3) (v := ?_) (by kernel_rfl) (some 18) (by kernel_rfl) rfl (by kernel_rfl) (by kernel_rfl) (by kernel_rfl) (fun _ _ _ h => h) (by rfl) (fun w' hw' => ?_) rfl ?_
  rotate_left
  · try have g1 := (cells3 (heap_below HG0.out ((Gr.drew wq).trans hw'))).2.2
    try have g2 := (cells2 (heap_below HP0.out ((Gr.drew wq).trans hw'))).2
    go_simp
    with_reducible rfl
  simp only [Act.put, List.setIfInBounds_toArray, List.set_cons_zero, List.set_cons_succ]
  -- 4: slot 19
  refine wpG_take preGr (i := 4) (v := ?_) (by kernel_rfl) (some 19) (by kernel_rfl) rfl (by kernel_rfl) (by kernel_rfl) (by kernel_rfl) (fun _ _ _ h => h) (by rfl) (fun w' hw' => ?_) rfl ?_
  rotate_left
  · try have g1 := (cells3 (heap_below HG0.out ((Gr.drew wq).trans hw'))).2.2
    try have g2 := (cells2 (heap_below HP0.out ((Gr.drew wq).trans hw'))).2
    go_simp
    with_reducible rfl
  simp only [Act.put, List.setIfInBounds_toArray, List.set_cons_zero, List.set_cons_succ]
  refine wpG_one (i := 2) rfl (by kernel_rfl) (by rfl) ?_
  go_simp
  refine (HC0.out _).mono ?_
  rintro e w' ⟨rfl, rfl⟩
  refine ⟨Gr.refl _, ?_⟩
  try simp only [Act.put, List.setIfInBounds_toArray, List.set_cons_zero, List.set_cons_succ]
  -- 6: slot 21
  refine wpG_take preGr (i := 6) (v := ?_) (by kernel_rfl) (some 21) (by kernel_rfl) rfl (by kernel_rfl) (by kernel_rfl) (by kernel_rfl) (fun _ _ _ h => h) (by rfl) (fun w' hw' => ?_) rfl ?_
  rotate_left
  · try have g1 := (cells3 (heap_below HG0.out ((Gr.drew wq).trans hw'))).2.2
    try have g2 := (cells2 (heap_below HP0.out ((Gr.drew wq).trans hw'))).2
    go_simp
    with_reducible rfl
  simp only [Act.put, List.setIfInBounds_toArray, List.set_cons_zero, List.set_cons_succ]
  refine wpG_one (i := 5) rfl (by kernel_rfl) (by rfl) ?_
  go_simp
  refine (HC1.out _).mono ?_
  rintro e w' ⟨rfl, rfl⟩
  refine ⟨Gr.refl _, ?_⟩
  try simp only [Act.put, List.setIfInBounds_toArray, List.set_cons_zero, List.set_cons_succ]
  refine wpG_tail (i := 7) (by decide) rfl (by kernel_rfl) (by rfl) ?_
  refine wp_store_cell (none) 22 (.tmp 21) (.tmp 17) rfl W.heap.size 2 (.slice a0 m0 c0) rfl rfl 39 [.int .i64 C0, .int .i64 S0, .slice a0 n0 c0] (show wq.drew.heap[W.heap.size]? = some (.cells #[.int .i64 C0, .int .i64 S0, .slice a0 n0 c0] 39) from HG0.out) (by kernel_rfl) (by simp) rfl rfl ?_
  intro wa hga hoa
  have HGA : Hid (wa.heap[W.heap.size]? = some (.cells #[.int .i64 C0, .int .i64 S0, .slice a0 m0 c0] 39 (0, 0))) := hga
  have HPA : Hid (wa.heap[W.heap.size + 1]? = some (.cells #[.int .i64 C1, .slice a1 n1 c1] 24)) := by
    show _ = _
    rw [hoa.heap _ (Array.getElem?_eq_some_iff.1 HP0.out).1 (by omega)]; exact HP0.out
  have HBA := Lib.hid (hoa.below _ _ (Nat.le_refl _) HB0.out.drew)
  clear hga hoa
  try simp only [Act.put, List.setIfInBounds_toArray, List.set_cons_zero, List.set_cons_succ]
  refine wpG_tail (i := 8) (by decide) rfl (by kernel_rfl) (by rfl) ?_
  go_simp
  try simp only [Act.put, List.setIfInBounds_toArray, List.set_cons_zero, List.set_cons_succ]
  refine wpG_tail (i := 9) (by decide) rfl (by kernel_rfl) (by rfl) ?_
  refine wp_store_cell (none) 22 (.tmp 22) (.tmp 20) rfl (W.heap.size + 1) 1 (.slice a1 m1 c1) rfl rfl 24 [.int .i64 C1, .slice a1 n1 c1] HPA.out (by kernel_rfl) (by simp) rfl rfl ?_
  intro w1 hg1 ho1
  have HP1 : Hid (w1.heap[W.heap.size + 1]? = some (.cells #[.int .i64 C1, .slice a1 m1 c1] 24 (0, 0))) := hg1
  have HG1 : Hid (w1.heap[W.heap.size]? = some (.cells #[.int .i64 C0, .int .i64 S0, .slice a0 m0 c0] 39 (0, 0))) := by
    show _ = _
    rw [ho1.heap _ (Array.getElem?_eq_some_iff.1 HGA.out).1 (by omega)]; exact HGA.out
  have HB1 := Lib.hid (ho1.below _ _ (Nat.le_succ _) HBA.out)
  clear hg1 ho1
  try simp only [Act.put, List.setIfInBounds_toArray, List.set_cons_zero, List.set_cons_succ]
  refine wpG_done (by kernel_rfl) ?_ _
  obtain ⟨r, hr⟩ : ∃ r, r = rejP ⟨C0, S0, x0⟩ id := ⟨_, rfl⟩
  obtain ⟨s, hs⟩ : ∃ s, s = proP ⟨C1, x1⟩ id := ⟨_, rfl⟩
  have HRR := Lib.hid hr
  have HSS := Lib.hid hs
  have D1 := Lib.hid (reject1_any C0 S0 id a0 m0 c0 x0 HX0.out w1 (HU0.out.below HB1.out) (by omega))
  rw [← hr] at D1
  obtain ⟨k0, k1, k2⟩ := cells3 HG1.out
  clear hr hs HGA HPA HBA HB0 HG0 HP0
  go_wp2_with fail
  refine D1.out.mono ?_
  rintro e w2 ⟨A2, L2, C2, rfl, hown2, hb2⟩
  have hE2 : Below w2.heap.size w2 (w2.alloc (.cells #[.int .i64 r.1.c, .int .i64 r.1.i, .slice A2 L2 C2] 39)) := (Below.refl _ _).alloc (Nat.le_refl _) _
  have hB2 := hb2.trans (hE2.mono hb2.size)
  have HB2 := Lib.hid (HB1.out.trans (hB2.mono HB1.out.size))
  have HG2 := Lib.hid (heap_below HG1.out hB2)
  have HP2 := Lib.hid (heap_below HP1.out hB2)
  have HA2 : Hid ((w2.alloc (.cells #[.int .i64 r.1.c, .int .i64 r.1.i, .slice A2 L2 C2] 39)).heap[w2.heap.size]? = some (.cells #[.int .i64 r.1.c, .int .i64 r.1.i, .slice A2 L2 C2] 39)) := heap_alloc_last _ _
  have HV2 := Lib.hid (hown2.bs.below hE2)
  have D2 := Lib.hid (rreject_any C0 S0 id a0 m0 c0 x0 HX0.out (w2.alloc (.cells #[.int .i64 r.1.c, .int .i64 r.1.i, .slice A2 L2 C2] 39)) (HU0.out.below HB2.out) (by omega))
  rw [← HRR.out] at D2
  clear hown2 hb2 hE2 hB2 D1 k0 k1 k2 HG1 HP1 HB1
  obtain ⟨k0, k1, k2⟩ := cells3 HG2.out
  go_wp2_with fail
  refine D2.out.mono ?_
  rintro e w3 ⟨A3, L3, C3, rfl, hown3, hb3⟩
  have hE3 : Below w3.heap.size w3 (w3.alloc (.cells #[.int .i64 r.1.c, .int .i64 r.1.i, .slice A3 L3 C3] 39)) := (Below.refl _ _).alloc (Nat.le_refl _) _
  have hB3 := hb3.trans (hE3.mono hb3.size)
  have HB3 := Lib.hid (HB2.out.trans (hB3.mono HB2.out.size))
  have HP3 := Lib.hid (heap_below HP2.out hB3)
  have HA3 := Lib.hid (heap_below HA2.out hB3)
  have HC3 : Hid ((w3.alloc (.cells #[.int .i64 r.1.c, .int .i64 r.1.i, .slice A3 L3 C3] 39)).heap[w3.heap.size]? = some (.cells #[.int .i64 r.1.c, .int .i64 r.1.i, .slice A3 L3 C3] 39)) := heap_alloc_last _ _
  have hv2 := HV2.out.below hB3
  have hv3 := hown3.bs.below hE3
  obtain rfl := same_len hv2 hv3
  have HV3 := Lib.hid hv2
  have HV3' := Lib.hid hv3
  have D3 := Lib.hid (protocol_any C1 id a1 m1 c1 x1 HX1.out (w3.alloc (.cells #[.int .i64 r.1.c, .int .i64 r.1.i, .slice A3 L3 C3] 39)) (HU1.out.below HB3.out) (by omega))
  rw [← HSS.out] at D3
  clear hown3 hb3 hE3 hB3 D2 k0 k1 k2 hv2 hv3 HV2 HA2 HP2 HG2 HB2
  obtain ⟨k0, k1⟩ := cells2 HP3.out
  go_wp2_with fail
  refine D3.out.mono ?_
  rintro e w4 ⟨A4, L4, C4, rfl, hown4, hb4⟩
  have hE4 : Below w4.heap.size w4 (w4.alloc (.cells #[.int .i64 s.1.c, .int .i64 s.1.i, .slice A4 L4 C4] 39)) := (Below.refl _ _).alloc (Nat.le_refl _) _
  have hB4 := hb4.trans (hE4.mono hb4.size)
  have HB4 := Lib.hid (HB3.out.trans (hB4.mono HB3.out.size))
  have HP4 := Lib.hid (heap_below HP3.out hB4)
  have HA4 := Lib.hid (heap_below HA3.out hB4)
  have HC4 := Lib.hid (heap_below HC3.out hB4)
  have HD4 : Hid ((w4.alloc (.cells #[.int .i64 s.1.c, .int .i64 s.1.i, .slice A4 L4 C4] 39)).heap[w4.heap.size]? = some (.cells #[.int .i64 s.1.c, .int .i64 s.1.i, .slice A4 L4 C4] 39)) := heap_alloc_last _ _
  have HV4 := Lib.hid (HV3.out.below hB4)
  have HV4' := Lib.hid (HV3'.out.below hB4)
  have HU4 := Lib.hid (hown4.bs.below hE4)
  have D4 := Lib.hid (rprotocol_any C1 id a1 m1 c1 x1 HX1.out (w4.alloc (.cells #[.int .i64 s.1.c, .int .i64 s.1.i, .slice A4 L4 C4] 39)) (HU1.out.below HB4.out) (by omega))
  rw [← HSS.out] at D4
  clear hown4 hb4 hE4 hB4 D3 k0 k1 HV3 HV3' HA3 HC3 HP3 HB3
  obtain ⟨k0, k1⟩ := cells2 HP4.out
  go_wp2_with fail
  refine D4.out.mono ?_
  rintro e w5 ⟨A5, L5, C5, rfl, hown5, hb5⟩
  have hE5 : Below w5.heap.size w5 (w5.alloc (.cells #[.int .i64 s.1.c, .int .i64 s.1.i, .slice A5 L5 C5] 39)) := (Below.refl _ _).alloc (Nat.le_refl _) _
  have hB5 := hb5.trans (hE5.mono hb5.size)
  have HB5 := Lib.hid (HB4.out.trans (hB5.mono HB4.out.size))
  have HA5 := Lib.hid (heap_below HA4.out hB5)
  have HC5 := Lib.hid (heap_below HC4.out hB5)
  have HD5 := Lib.hid (heap_below HD4.out hB5)
  have HF5 : Hid ((w5.alloc (.cells #[.int .i64 s.1.c, .int .i64 s.1.i, .slice A5 L5 C5] 39)).heap[w5.heap.size]? = some (.cells #[.int .i64 s.1.c, .int .i64 s.1.i, .slice A5 L5 C5] 39)) := heap_alloc_last _ _
  have hu4 := HU4.out.below hB5
  have hu5 := hown5.bs.below hE5
  obtain rfl := same_len hu4 hu5
  have HU5 := Lib.hid hu4
  have HU5' := Lib.hid hu5
  have SM := Lib.hid (csame_true r.1.c r.1.i A2 A3 L3 C2 C3 _ (w5.alloc (.cells #[.int .i64 s.1.c, .int .i64 s.1.i, .slice A5 L5 C5] 39)) (HV4.out.below hB5) (HV4'.out.below hB5))
  clear hown5 hb5 hE5 hB5 D4 k0 k1 hu4 hu5 HU4 HV4 HV4' HA4 HC4 HD4 HP4 HB4
  obtain ⟨p0, p1, p2⟩ := cells3 HA5.out
  obtain ⟨q0, q1, q2⟩ := cells3 HC5.out
  go_wp2_with fail
  refine SM.out.mono ?_
  rintro e w6 ⟨rfl, hb6⟩
  have HB6 := Lib.hid (HB5.out.trans (hb6.mono HB5.out.size))
  have HD6 := Lib.hid (heap_below HD5.out hb6)
  have HF6 := Lib.hid (heap_below HF5.out hb6)
  have SM2 := Lib.hid (csame_true s.1.c s.1.i A4 A5 L5 C4 C5 _ w6 (HU5.out.below hb6) (HU5'.out.below hb6))
  clear hb6 SM p0 p1 p2 q0 q1 q2
  obtain ⟨p0, p1, p2⟩ := cells3 HD6.out
  obtain ⟨q0, q1, q2⟩ := cells3 HF6.out
  go_wp2_with fail
  refine SM2.out.mono ?_
  rintro e w7 ⟨rfl, hb7⟩
  have HB7 := Lib.hid (HB6.out.trans (hb7.mono HB6.out.size))
  clear hb7 SM2 p0 p1 p2 q0 q1 q2
  go_wp2_with fail
  refine (AW.out w7).mono ?_
  rintro e w8 ⟨rfl, hb8⟩
  have HB8 := Lib.hid (HB7.out.trans (hb8.mono HB7.out.size))
  clear hb8
  go_wp2
  go_ret
  exact ⟨by simp, HB8.out⟩

theorem own : ownKnob Try.prog.godebug = none := by kernel_rfl
theorem laidOut : laidOutB Try.prog = true := by kernel_rfl
set_option maxRecDepth 100000 in
theorem lifted (os : Os) (started : os.Started) (H : Type) (enc : TypeId × Value → H) :
    ReturnsInHanded {} Try.checked os 5 .any (Rows.cpRejectsSpec.pre6 enc Try.prog Try.f5 Rows.cpRejectsRow.domain false) (Rows.cpRejectsSpec.post enc Try.prog Try.f5 false true false false) := by
  refine returnsInHanded_of_change (C := Try.checked) own started (by kernel_rfl) Try.func5
    (ChangeSpec.witness6 (enc := enc) (C := Try.checked) false ⟨#[], #[.agg #[.int .i64 0, .int .i64 0, .slice none 0 0], .agg #[.int .i64 0, .slice none 0 0], .int .i64 0], []⟩ 8 (by kernel_rfl) (by kernel_rfl) (by kernel_rfl) (by kernel_rfl)) ?_
  intro W base args ds gs before hval0 hW hcnd _
  have hval : ∀ (j : Nat) t v, Try.f5.params[j]? = some t → args[j]? = some v → Value.okWide Try.prog W .any base t v := hval0
  have hW' := hW
  obtain ⟨p, q, hA0, hV, rfl, hfz, hnd⟩ := hW
  have hA : DataW.TrodAll enc Try.prog W 0 (fun _ => true) true Try.f5.params.toList args.toList ds p := hA0
  rw [Try.params5] at hA hval
  obtain ⟨v0, vs0, d0, ds0, p0, q0, hargs, rfl, rfl, h0, r0⟩ := trodAll_cons hA
  obtain ⟨v1, vs1, d1, ds1, p1, q1, rfl, rfl, rfl, h1, r1⟩ := trodAll_cons r0
  obtain ⟨v2, vs2, d2, ds2, p2, q2, rfl, rfl, rfl, h2, r2⟩ := trodAll_cons r1
  obtain ⟨rfl, rfl, rfl⟩ := trodAll_nil r2
  obtain rfl : args = #[v0, v1, v2] := by cases args; simp_all
  obtain ⟨rfl, rfl⟩ := trodVars_none hV
  have k0 := h0
  have lt0 : ∀ x ∈ p0, x.block < W.heap.size := by obtain ⟨m, hm⟩ := k0; exact DataW.trod_lt m _ _ _ hm
  obtain ⟨C0, S0, a0, n0, c0, l0, rfl, hn0, b0⟩ := open_ctl Try.underlying39 ⟨rfl, rfl, rfl⟩ Try.underlying3 Try.underlying3 Try.underlying22 Try.underlying5 ⟨by kernel_rfl, by kernel_rfl, by kernel_rfl, by kernel_rfl, by kernel_rfl⟩ (hval 0 39 v0 rfl rfl) h0
  have k1 := h1
  have lt1 : ∀ x ∈ p1, x.block < W.heap.size := by obtain ⟨m, hm⟩ := k1; exact DataW.trod_lt m _ _ _ hm
  obtain ⟨C1, a1, n1, c1, l1, rfl, hn1, b1⟩ := open_ppp Try.underlying24 ⟨rfl, rfl⟩ Try.underlying3 Try.underlying22 Try.underlying5 ⟨by kernel_rfl, by kernel_rfl, by kernel_rfl, by kernel_rfl⟩ (hval 1 24 v1 rfl rfl) h1
  have k2 := h2
  have lt2 : ∀ x ∈ p2, x.block < W.heap.size := by obtain ⟨m, hm⟩ := k2; exact DataW.trod_lt m _ _ _ hm
  obtain ⟨a2, rfl, rfl, rfl, w2⟩ := open_int Try.underlying3 (hval 2 3 v2 rfl rfl) h2
  clear hA0 hval0
  refine (walk W C0 S0 a0 n0 c0 l0 hn0 b0 C1 a1 n1 c1 l1 hn1 b1 a2 w2).mono fun e W' ⟨he, bel⟩ => ?_
  subst he
  exact ⟨_, rfl, _, _, _, [], _, [], hW', trodAll_mk1 (shut_bool Try.underlying4 _), (trodAll_cons_mk (Below.trod laidOut (by kernel_rfl) (of_decide_eq_true (by kernel_rfl)) k0 bel lt0) (trodAll_cons_mk (Below.trod laidOut (by kernel_rfl) (of_decide_eq_true (by kernel_rfl)) k1 bel lt1) (trodAll_cons_mk (Below.trod laidOut (by kernel_rfl) (of_decide_eq_true (by kernel_rfl)) k2 bel lt2) trodAll_mk0))), rfl, bel.frame _, fun h => by cases h⟩
theorem over : Rows.cpRejectsRow.holds Try.pinned (OpenSpec.ofChange Rows.cpRejectsSpec) :=
  OpenClaim.holds_of_wide 5 Try.f5 rfl rfl rfl rfl rfl rfl rfl ⟨rfl, rfl, rfl, rfl, rfl⟩ rfl rfl rfl rfl rfl (by kernel_rfl) Try.func5 (by kernel_rfl)
    (of_decide_eq_true (by kernel_rfl)) (by unfold Func.isWrapper; first | (rw [if_pos (by decide +kernel)]; kernel_rfl) | (rw [if_neg (by decide +kernel)]; exact ⟨rfl, rfl⟩))
    (fun os started H enc _ => lifted os started H enc)
/-- The statement. -/
theorem proved : Rows.CpRejectsSaid := over
end Go.Proofs.Ythllhdcdiidfpaa.cpRejects
