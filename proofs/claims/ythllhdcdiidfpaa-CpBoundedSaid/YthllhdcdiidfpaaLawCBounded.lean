/-
  For every control packet, every protocol with its bytes (the first 1600 bytes of each) and every number what cp.Reject and cp.Protocol tell can be encoded, and joined (conciergelaw07.CpBounded answers true). No conditions.
-/
import Derived.Test.YthllhdcdiidfpaaCpN
import Derived.Test.YthllhdcdiidfpaaCpK
import Derived.Test.YthllhdcdiidfpaaCpL
import Derived.Test.YthllhdcdiidfpaaOpenQ
import Derived.ProofKit
import Derived.OpenShut
import Derived.ChangeOld
namespace Go.Proofs.Ythllhdcdiidfpaa.cpBounded
open Go.ChangeShapes Go.WideShapes Go.ChangeAt Go.RowKit
set_option linter.unusedVariables false
set_option linter.unusedSimpArgs false

/-- What stands through the rounds: the row of two packets. -/
structure Two (W wr : World) (g : Nat) (x y : QC) (A : Option Addr) (L C : Nat) (A' : Option Addr) (L' C' : Nat) : Prop where
  low : Below W.heap.size W wr
  row : wr.heap[g]? = some (.cells #[.int .i64 x.c, .int .i64 x.i, .slice A L C, .int .i64 y.c, .int .i64 y.i, .slice A' L' C'] 39 (0, 0))
  one : Bs wr (.slice A L C) x.l
  two : Bs wr (.slice A' L' C') y.l
theorem Two.below {W w w' : World} {g : Nat} {x y : QC} {A : Option Addr} {L C : Nat} {A' : Option Addr} {L' C' : Nat} (h : Two W w g x y A L C A' L' C') (hb : Below w.heap.size w w') : Two W w' g x y A L C A' L' C' :=
  ⟨h.low.trans (hb.mono h.low.size), heap_below h.row hb, h.one.below hb, h.two.below hb⟩
theorem cells6' {w : World} {g : Nat} {a b c d e f : Value} {t : TypeId} {fr : Nat × Nat} (h : w.heap[g]? = some (.cells #[a, b, c, d, e, f] t fr)) :
    w.cell? ⟨g, 0, none⟩ = some a ∧ w.cell? ⟨g, 1, none⟩ = some b ∧ w.cell? ⟨g, 2, none⟩ = some c ∧ w.cell? ⟨g, 3, none⟩ = some d ∧ w.cell? ⟨g, 4, none⟩ = some e ∧ w.cell? ⟨g, 5, none⟩ = some f := cells6 h
theorem slen_eq {w : World} {A : Option Addr} {L C : Nat} {l : List UInt8} (h : Bs w (.slice A L C) l) : l.length = L := by
  obtain ⟨_, _, _, e1, h1, _, _⟩ := h.sl
  simp only [Value.slice.injEq] at e1
  rw [e1.2.1, ← h1]

set_option maxRecDepth 20000 in
set_option maxHeartbeats 4000000 in
theorem walk (W : World) (C0 S0 : Int) (a0 : Option Addr) (n0 c0 : Nat) (l0 : List UInt8) (hn0 : l0.length = n0) (b0 : Bs W (.slice a0 n0 c0) l0) (C1 : Int) (a1 : Option Addr) (n1 c1 : Nat) (l1 : List UInt8) (hn1 : l1.length = n1) (b1 : Bs W (.slice a1 n1 c1) l1) (id : Int) (wid : (Lit.int .i64 id).wf = true) :
    Calls Try.prog 7 #[.agg #[.int .i64 C0, .int .i64 S0, .slice a0 n0 c0], .agg #[.int .i64 C1, .slice a1 n1 c1], .int .i64 id] W fun e w' => e = .returned (.bool true) ∧ Below W.heap.size W w' := by
  obtain ⟨m0, x0, hm0, hx0, u0, hc0⟩ := cut7_in hn0 b0
  obtain ⟨m1, x1, hm1, hx1, u1, hc1⟩ := cut7_in hn1 b1
  have HC0 := Lib.hid hc0
  have HC1 := Lib.hid hc1
  have HX0 := Lib.hid hx0
  have HX1 := Lib.hid hx1
  have HB0 : Hid (Below W.heap.size W ((W.alloc (.cells #[.int .i64 C0, .int .i64 S0, .slice a0 n0 c0] 39)).alloc (.cells #[.int .i64 C1, .slice a1 n1 c1] 24))) := ((Below.refl _ _).alloc (Nat.le_refl _) _).alloc (by simp) _
  have HG0 : Hid (((W.alloc (.cells #[.int .i64 C0, .int .i64 S0, .slice a0 n0 c0] 39)).alloc (.cells #[.int .i64 C1, .slice a1 n1 c1] 24)).heap[W.heap.size]? = some (.cells #[.int .i64 C0, .int .i64 S0, .slice a0 n0 c0] 39)) := heap2_0' _ _ _
  have HP0 : Hid (((W.alloc (.cells #[.int .i64 C0, .int .i64 S0, .slice a0 n0 c0] 39)).alloc (.cells #[.int .i64 C1, .slice a1 n1 c1] 24)).heap[W.heap.size + 1]? = some (.cells #[.int .i64 C1, .slice a1 n1 c1] 24)) := heap2_1' _ _ _
  have HU0 := Lib.hid u0
  have HU1 := Lib.hid u1
  have AW := Lib.hid awake_any
  obtain ⟨wq, hwq⟩ : ∃ x, x = (W.alloc (.cells #[.int .i64 C0, .int .i64 S0, .slice a0 n0 c0] 39)).alloc (.cells #[.int .i64 C1, .slice a1 n1 c1] 24) := ⟨_, rfl⟩
  clear hn0 b0 u0 hc0 hx0 hn1 b1 u1 hc1 hx1 wid
  go_enter Try.func7, Try.ntmps7
  go_wp2_with fail
  rw [← hwq] at HB0 HG0 HP0 ⊢
  clear hwq
  refine wp_region_G 7 Gr (by kernel_rfl) ?_
  -- 0: slot 17
  refine wpG_take preGr (i := 0) (v := ?_) (by kernel_rfl) (some 17) (by kernel_rfl) rfl (by kernel_rfl) (by kernel_rfl) (by kernel_rfl) (fun _ _ _ h => h) (by rfl) (fun w' hw' => ?_) rfl ?_
  rotate_left
  · try have g1 := (cells3 (heap_below HG0.out ((Gr.drew wq).trans hw'))).2.2
    try have g2 := (cells2 (heap_below HP0.out ((Gr.drew wq).trans hw'))).2
    go_simp
    with_reducible rfl
  simp only [Act.put, List.setIfInBounds_toArray, List.set_cons_zero, List.set_cons_succ]
  -- 1: slot 18
  refine wpG_take preGr (i := 1) (v := ?_) (by kernel_rfl) (some 18) (by kernel_rfl) rfl (by kernel_rfl) (by kernel_rfl) (by kernel_rfl) (fun _ _ _ h => h) (by rfl) (fun w' hw' => ?_) rfl ?_
  rotate_left
  · try have g1 := (cells3 (heap_below HG0.out ((Gr.drew wq).trans hw'))).2.2
    try have g2 := (cells2 (heap_below HP0.out ((Gr.drew wq).trans hw'))).2
    go_simp
    with_reducible rfl
  simp only [Act.put, List.setIfInBounds_toArray, List.set_cons_zero, List.set_cons_succ]
  -- 3: slot 20
  refine wpG_take preGr (i := 3) (v := ?_) (by kernel_rfl) (some 20) (by kernel_rfl) rfl (by kernel_rfl) (by kernel_rfl) (by kernel_rfl) (fun _ _ _ h => h) (by rfl) (fun w' hw' => ?_) rfl ?_
  rotate_left
  · try have g1 := (cells3 (heap_below HG0.out ((Gr.drew wq).trans hw'))).2.2
    try have g2 := (cells2 (heap_below HP0.out ((Gr.drew wq).trans hw'))).2
    go_simp
    with_reducible rfl
  simp only [Act.put, List.setIfInBounds_toArray, List.set_cons_zero, List.set_cons_succ]
  -- 4: slot 21
  refine wpG_take preGr (i := 4) (v := ?_) (by kernel_rfl) (some 21) (by kernel_rfl) rfl (by kernel_rfl) (by kernel_rfl) (by kernel_rfl) (fun _ _ _ h => h) (by rfl) (fun w' hw' => ?_) rfl ?_
  rotate_left
  · try have g1 := (cells3 (heap_below HG0.out ((Gr.drew wq).trans hw'))).2.2
    try have g2 := (cells2 (heap_below HP0.out ((Gr.drew wq).trans hw'))).2
    go_simp
    with_reducible rfl
  simp only [Act.put, List.setIfInBounds_toArray, List.set_cons_zero, List.set_cons_succ]
  refine wpG_one (i := 2) rfl (by kernel_rfl) (by rfl) ?_
  go_simp
  refine (HC0.out _).mono ?_
  rintro e w' ⟨rfl, rfl⟩
  refine ⟨Gr.refl _, ?_⟩
  try simp only [Act.put, List.setIfInBounds_toArray, List.set_cons_zero, List.set_cons_succ]
  -- 6: slot 23
  refine wpG_take preGr (i := 6) (v := ?_) (by kernel_rfl) (some 23) (by kernel_rfl) rfl (by kernel_rfl) (by kernel_rfl) (by kernel_rfl) (fun _ _ _ h => h) (by rfl) (fun w' hw' => ?_) rfl ?_
  rotate_left
  · try have g1 := (cells3 (heap_below HG0.out ((Gr.drew wq).trans hw'))).2.2
    try have g2 := (cells2 (heap_below HP0.out ((Gr.drew wq).trans hw'))).2
    go_simp
    with_reducible rfl
  simp only [Act.put, List.setIfInBounds_toArray, List.set_cons_zero, List.set_cons_succ]
  refine wpG_one (i := 5) rfl (by kernel_rfl) (by rfl) ?_
  go_simp
  refine (HC1.out _).mono ?_
  rintro e w' ⟨rfl, rfl⟩
  refine ⟨Gr.refl _, ?_⟩
  try simp only [Act.put, List.setIfInBounds_toArray, List.set_cons_zero, List.set_cons_succ]
  refine wpG_tail (i := 7) (by decide) rfl (by kernel_rfl) (by rfl) ?_
  refine wp_store_cell (none) 22 (.tmp 23) (.tmp 19) rfl W.heap.size 2 (.slice a0 m0 c0) rfl rfl 39 [.int .i64 C0, .int .i64 S0, .slice a0 n0 c0] (show wq.drew.heap[W.heap.size]? = some (.cells #[.int .i64 C0, .int .i64 S0, .slice a0 n0 c0] 39) from HG0.out) (by kernel_rfl) (by simp) rfl rfl ?_
  intro wa hga hoa
  have HGA : Hid (wa.heap[W.heap.size]? = some (.cells #[.int .i64 C0, .int .i64 S0, .slice a0 m0 c0] 39 (0, 0))) := hga
  have HPA : Hid (wa.heap[W.heap.size + 1]? = some (.cells #[.int .i64 C1, .slice a1 n1 c1] 24)) := by
    show _ = _
    rw [hoa.heap _ (Array.getElem?_eq_some_iff.1 HP0.out).1 (by omega)]; exact HP0.out
  have HBA := Lib.hid (hoa.below _ _ (Nat.le_refl _) HB0.out.drew)
  clear hga hoa
  try simp only [Act.put, List.setIfInBounds_toArray, List.set_cons_zero, List.set_cons_succ]
  refine wpG_tail (i := 8) (by decide) rfl (by kernel_rfl) (by rfl) ?_
  go_simp
  try simp only [Act.put, List.setIfInBounds_toArray, List.set_cons_zero, List.set_cons_succ]
  refine wpG_tail (i := 9) (by decide) rfl (by kernel_rfl) (by rfl) ?_
  refine wp_store_cell (none) 22 (.tmp 24) (.tmp 22) rfl (W.heap.size + 1) 1 (.slice a1 m1 c1) rfl rfl 24 [.int .i64 C1, .slice a1 n1 c1] HPA.out (by kernel_rfl) (by simp) rfl rfl ?_
  intro w1 hg1 ho1
  have HP1 : Hid (w1.heap[W.heap.size + 1]? = some (.cells #[.int .i64 C1, .slice a1 m1 c1] 24 (0, 0))) := hg1
  have HG1 : Hid (w1.heap[W.heap.size]? = some (.cells #[.int .i64 C0, .int .i64 S0, .slice a0 m0 c0] 39 (0, 0))) := by
    show _ = _
    rw [ho1.heap _ (Array.getElem?_eq_some_iff.1 HGA.out).1 (by omega)]; exact HGA.out
  have HB1 := Lib.hid (ho1.below _ _ (Nat.le_succ _) HBA.out)
  clear hg1 ho1
  try simp only [Act.put, List.setIfInBounds_toArray, List.set_cons_zero, List.set_cons_succ]
  refine wpG_done (by kernel_rfl) ?_ _
  obtain ⟨r, hr⟩ : ∃ r, r = rejP ⟨C0, S0, x0⟩ id := ⟨_, rfl⟩
  obtain ⟨s, hs⟩ : ∃ s, s = proP ⟨C1, x1⟩ id := ⟨_, rfl⟩
  have HRF : Hid (r.2 = 0 → cencE r.1 = 0 ∧ joinE ⟨49185, wireC r.1⟩ = 0) := by rw [hr]; exact tellP_fits (by decide)
  have HSF : Hid (s.2 = 0 → cencE s.1 = 0 ∧ joinE ⟨49185, wireC s.1⟩ = 0) := by rw [hs]; exact tellP_fits (by decide)
  have D1 := Lib.hid (reject1_any C0 S0 id a0 m0 c0 x0 HX0.out w1 (HU0.out.below HB1.out) (by omega))
  have HSS := Lib.hid hs
  rw [← hr] at D1
  obtain ⟨k0, k1, k2⟩ := cells3 HG1.out
  clear hr hs HGA HPA HBA HB0 HG0 HP0
  go_wp2_with fail
  refine D1.out.mono ?_
  rintro e w2 ⟨A2, L2, C2, rfl, hown2, hb2⟩
  have hE2 : Below w2.heap.size w2 (w2.alloc (.cells #[.int .i64 r.1.c, .int .i64 r.1.i, .slice A2 L2 C2] 39)) := (Below.refl _ _).alloc (Nat.le_refl _) _
  have hB2 := hb2.trans (hE2.mono hb2.size)
  have HB2 := Lib.hid (HB1.out.trans (hB2.mono HB1.out.size))
  have HP2 := Lib.hid (heap_below HP1.out hB2)
  have HA2 : Hid ((w2.alloc (.cells #[.int .i64 r.1.c, .int .i64 r.1.i, .slice A2 L2 C2] 39)).heap[w2.heap.size]? = some (.cells #[.int .i64 r.1.c, .int .i64 r.1.i, .slice A2 L2 C2] 39)) := heap_alloc_last _ _
  have HV2 := Lib.hid (hown2.bs.below hE2)
  have D3 := Lib.hid (protocol_any C1 id a1 m1 c1 x1 HX1.out (w2.alloc (.cells #[.int .i64 r.1.c, .int .i64 r.1.i, .slice A2 L2 C2] 39)) (HU1.out.below HB2.out) (by omega))
  rw [← HSS.out] at D3
  clear hown2 hb2 hE2 hB2 D1 k0 k1 k2 HG1 HP1 HB1
  obtain ⟨k0, k1⟩ := cells2 HP2.out
  go_wp2_with fail
  refine D3.out.mono ?_
  rintro e w4 ⟨A4, L4, C4, rfl, hown4, hb4⟩
  have hE4 : Below w4.heap.size w4 (w4.alloc (.cells #[.int .i64 s.1.c, .int .i64 s.1.i, .slice A4 L4 C4] 39)) := (Below.refl _ _).alloc (Nat.le_refl _) _
  have hB4 := hb4.trans (hE4.mono hb4.size)
  have HB4 := Lib.hid (HB2.out.trans (hB4.mono HB2.out.size))
  have HA4 := Lib.hid (heap_below HA2.out hB4)
  have HD4 : Hid ((w4.alloc (.cells #[.int .i64 s.1.c, .int .i64 s.1.i, .slice A4 L4 C4] 39)).heap[w4.heap.size]? = some (.cells #[.int .i64 s.1.c, .int .i64 s.1.i, .slice A4 L4 C4] 39)) := heap_alloc_last _ _
  have HV4 := Lib.hid (HV2.out.below hB4)
  have HU4 := Lib.hid (hown4.bs.below hE4)
  have hE5 : Below (w4.alloc (.cells #[.int .i64 s.1.c, .int .i64 s.1.i, .slice A4 L4 C4] 39)).heap.size (w4.alloc (.cells #[.int .i64 s.1.c, .int .i64 s.1.i, .slice A4 L4 C4] 39)) ((w4.alloc (.cells #[.int .i64 s.1.c, .int .i64 s.1.i, .slice A4 L4 C4] 39)).alloc (.cells #[.int .i64 r.1.c, .int .i64 r.1.i, .slice A2 L2 C2, .int .i64 s.1.c, .int .i64 s.1.i, .slice A4 L4 C4] 39)) := (Below.refl _ _).alloc (Nat.le_refl _) _
  have hg5 := heap_alloc_last (w4.alloc (.cells #[.int .i64 s.1.c, .int .i64 s.1.i, .slice A4 L4 C4] 39)) (.cells #[.int .i64 r.1.c, .int .i64 r.1.i, .slice A2 L2 C2, .int .i64 s.1.c, .int .i64 s.1.i, .slice A4 L4 C4] 39)
  rw [World.size_alloc] at hg5
  have HT5 : Hid (Two W ((w4.alloc (.cells #[.int .i64 s.1.c, .int .i64 s.1.i, .slice A4 L4 C4] 39)).alloc (.cells #[.int .i64 r.1.c, .int .i64 r.1.i, .slice A2 L2 C2, .int .i64 s.1.c, .int .i64 s.1.i, .slice A4 L4 C4] 39)) (w4.heap.size + 1) r.1 s.1 A2 L2 C2 A4 L4 C4) := ⟨HB4.out.trans (hE5.mono HB4.out.size), hg5, HV4.out.below hE5, HU4.out.below hE5⟩
  clear hown4 hb4 hE4 hB4 D3 k0 k1 HV2 HA2 HP2 HB2 hE5 hg5
  obtain ⟨p0, p1, p2⟩ := cells3 HA4.out
  obtain ⟨q0, q1, q2⟩ := cells3 HD4.out
  go_wp2
  go_loopw [41] (fun iv wr => ∃ i : Nat, i ≤ 2 ∧ iv = .int .i64 (i : Int) ∧ Hid (Two W wr (w4.heap.size + 1) r.1 s.1 A2 L2 C2 A4 L4 C4)) (fun iv _ => 2 - (intOf iv).toNat)
  case atStart => exact ⟨0, by decide, rfl, HT5⟩
  case round =>
    clear HT5 p0 p1 p2 q0 q1 q2
    obtain ⟨i, hi2, rfl, HT⟩ := hrel
    obtain ⟨z0, z1, z2, z3, z4, z5⟩ := cells6' HT.out.row
    have hcase : i = 0 ∨ i = 1 ∨ i = 2 := by omega
    rcases hcase with rfl | rfl | rfl
    · by_cases hz : r.2 = 0
      · obtain ⟨f1, f2⟩ := HRF.out hz
        have hlen : r.1.l.length = L2 := slen_eq HT.out.one
        have hle := (cencE_zero f1).2.2
        have hEd : Below wr.heap.size wr (wr.alloc (.cells #[.int .i64 r.1.c, .int .i64 r.1.i, .slice A2 L2 C2] 39)) := (Below.refl _ _).alloc (Nat.le_refl _) _
        have HTd := Lib.hid (HT.out.below hEd)
        have EN := Lib.hid (cencode_any r.1.c r.1.i A2 L2 C2 r.1.l hlen (wr.alloc (.cells #[.int .i64 r.1.c, .int .i64 r.1.i, .slice A2 L2 C2] 39)) HTd.out.one (by omega))
        have e1 : cencE ⟨r.1.c, r.1.i, r.1.l⟩ = 0 := f1
        have e2 : cencB ⟨r.1.c, r.1.i, r.1.l⟩ = wireC r.1 := cencB_yes f1
        rw [e1, e2] at EN
        have hwl : (wireC r.1).length ≤ 2000 := by rw [wireC_length]; omega
        have HWL := Lib.hid hwl
        have HF2 := Lib.hid f2
        have hz' : (r.2 != 0) = false := by rw [hz]; rfl
        clear hEd e1 e2 f1 f2 hlen hle hwl hz
        go_wp2_with fail
        refine EN.out.mono ?_
        rintro e wb ⟨vb, rfl, hownb, hbb⟩
        have HTb := Lib.hid (HTd.out.below hbb)
        obtain ⟨Ab, Lb, Cb, ev, hLb, _, _⟩ := hownb.bs.sl
        subst ev
        have JN := Lib.hid (join_any 49185 Ab Lb Cb _ hLb wb hownb.bs (by have := HWL.out; omega))
        rw [HF2.out] at JN
        clear hownb hbb hLb EN z0 z1 z2 z3 z4 z5
        go_wp2_with fail
        refine JN.out.mono ?_
        rintro e wc ⟨vc, rfl, hownc, hbc⟩
        have HTc := Lib.hid (HTb.out.below hbc)
        clear hownc hbc JN
        go_wp2
        go_roundw
        case rel => first | exact ⟨0 + 1, by decide, by go_num, HTc⟩ | ((repeat apply Exists.intro); exact ⟨⟨0 + 1, by decide, by go_num, HTc⟩, rfl⟩)
        case measure => simp [intOf]
      · have hz' : (r.2 == 0) = false := by rw [beq_eq_false_iff_ne]; exact hz
        have hEd : Below wr.heap.size wr (wr.alloc (.cells #[.int .i64 r.1.c, .int .i64 r.1.i, .slice A2 L2 C2] 39)) := (Below.refl _ _).alloc (Nat.le_refl _) _
        have HTd := Lib.hid (HT.out.below hEd)
        clear hEd
        go_wp2
        go_roundw
        case rel => first | exact ⟨0 + 1, by decide, by go_num, HTd⟩ | ((repeat apply Exists.intro); exact ⟨⟨0 + 1, by decide, by go_num, HTd⟩, rfl⟩)
        case measure => simp [intOf]
    · by_cases hz : s.2 = 0
      · obtain ⟨f1, f2⟩ := HSF.out hz
        have hlen : s.1.l.length = L4 := slen_eq HT.out.two
        have hle := (cencE_zero f1).2.2
        have hEd : Below wr.heap.size wr (wr.alloc (.cells #[.int .i64 s.1.c, .int .i64 s.1.i, .slice A4 L4 C4] 39)) := (Below.refl _ _).alloc (Nat.le_refl _) _
        have HTd := Lib.hid (HT.out.below hEd)
        have EN := Lib.hid (cencode_any s.1.c s.1.i A4 L4 C4 s.1.l hlen (wr.alloc (.cells #[.int .i64 s.1.c, .int .i64 s.1.i, .slice A4 L4 C4] 39)) HTd.out.two (by omega))
        have e1 : cencE ⟨s.1.c, s.1.i, s.1.l⟩ = 0 := f1
        have e2 : cencB ⟨s.1.c, s.1.i, s.1.l⟩ = wireC s.1 := cencB_yes f1
        rw [e1, e2] at EN
        have hwl : (wireC s.1).length ≤ 2000 := by rw [wireC_length]; omega
        have HWL := Lib.hid hwl
        have HF2 := Lib.hid f2
        have hz' : (s.2 != 0) = false := by rw [hz]; rfl
        clear hEd e1 e2 f1 f2 hlen hle hwl hz
        go_wp2_with fail
        refine EN.out.mono ?_
        rintro e wb ⟨vb, rfl, hownb, hbb⟩
        have HTb := Lib.hid (HTd.out.below hbb)
        obtain ⟨Ab, Lb, Cb, ev, hLb, _, _⟩ := hownb.bs.sl
        subst ev
        have JN := Lib.hid (join_any 49185 Ab Lb Cb _ hLb wb hownb.bs (by have := HWL.out; omega))
        rw [HF2.out] at JN
        clear hownb hbb hLb EN z0 z1 z2 z3 z4 z5
        go_wp2_with fail
        refine JN.out.mono ?_
        rintro e wc ⟨vc, rfl, hownc, hbc⟩
        have HTc := Lib.hid (HTb.out.below hbc)
        clear hownc hbc JN
        go_wp2
        go_roundw
        case rel => first | exact ⟨1 + 1, by decide, by go_num, HTc⟩ | ((repeat apply Exists.intro); exact ⟨⟨1 + 1, by decide, by go_num, HTc⟩, rfl⟩)
        case measure => simp [intOf]
      · have hz' : (s.2 == 0) = false := by rw [beq_eq_false_iff_ne]; exact hz
        have hEd : Below wr.heap.size wr (wr.alloc (.cells #[.int .i64 s.1.c, .int .i64 s.1.i, .slice A4 L4 C4] 39)) := (Below.refl _ _).alloc (Nat.le_refl _) _
        have HTd := Lib.hid (HT.out.below hEd)
        clear hEd
        go_wp2
        go_roundw
        case rel => first | exact ⟨1 + 1, by decide, by go_num, HTd⟩ | ((repeat apply Exists.intro); exact ⟨⟨1 + 1, by decide, by go_num, HTd⟩, rfl⟩)
        case measure => simp [intOf]
    · clear z0 z1 z2 z3 z4 z5
      obtain ⟨w6, hw6⟩ : ∃ x, x = wr := ⟨_, rfl⟩
      subst hw6
      have HL := Lib.hid HT.out.low
      clear HT
      go_wp2_with fail
      refine (AW.out w6).mono ?_
      rintro e w8 ⟨rfl, hb8⟩
      have HB8 := Lib.hid (HL.out.trans (hb8.mono HL.out.size))
      clear hb8
      go_wp2
      go_ret
      exact ⟨by simp, HB8.out⟩

theorem own : ownKnob Try.prog.godebug = none := by kernel_rfl
theorem laidOut : laidOutB Try.prog = true := by kernel_rfl
set_option maxRecDepth 100000 in
theorem lifted (os : Os) (started : os.Started) (H : Type) (enc : TypeId × Value → H) :
    ReturnsInHanded {} Try.checked os 7 .any (Rows.cpBoundedSpec.pre6 enc Try.prog Try.f7 Rows.cpBoundedRow.domain false) (Rows.cpBoundedSpec.post enc Try.prog Try.f7 false true false false) := by
  refine returnsInHanded_of_change (C := Try.checked) own started (by kernel_rfl) Try.func7
    (ChangeSpec.witness6 (enc := enc) (C := Try.checked) false ⟨#[], #[.agg #[.int .i64 0, .int .i64 0, .slice none 0 0], .agg #[.int .i64 0, .slice none 0 0], .int .i64 0], []⟩ 8 (by kernel_rfl) (by kernel_rfl) (by kernel_rfl) (by kernel_rfl)) ?_
  intro W base args ds gs before hval0 hW hcnd _
  have hval : ∀ (j : Nat) t v, Try.f7.params[j]? = some t → args[j]? = some v → Value.okWide Try.prog W .any base t v := hval0
  have hW' := hW
  obtain ⟨p, q, hA0, hV, rfl, hfz, hnd⟩ := hW
  have hA : DataW.TrodAll enc Try.prog W 0 (fun _ => true) true Try.f7.params.toList args.toList ds p := hA0
  rw [Try.params7] at hA hval
  obtain ⟨v0, vs0, d0, ds0, p0, q0, hargs, rfl, rfl, h0, r0⟩ := trodAll_cons hA
  obtain ⟨v1, vs1, d1, ds1, p1, q1, rfl, rfl, rfl, h1, r1⟩ := trodAll_cons r0
  obtain ⟨v2, vs2, d2, ds2, p2, q2, rfl, rfl, rfl, h2, r2⟩ := trodAll_cons r1
  obtain ⟨rfl, rfl, rfl⟩ := trodAll_nil r2
  obtain rfl : args = #[v0, v1, v2] := by cases args; simp_all
  obtain ⟨rfl, rfl⟩ := trodVars_none hV
  have k0 := h0
  have lt0 : ∀ x ∈ p0, x.block < W.heap.size := by obtain ⟨m, hm⟩ := k0; exact DataW.trod_lt m _ _ _ hm
  obtain ⟨C0, S0, a0, n0, c0, l0, rfl, hn0, b0⟩ := open_ctl Try.underlying39 ⟨rfl, rfl, rfl⟩ Try.underlying3 Try.underlying3 Try.underlying22 Try.underlying5 ⟨by kernel_rfl, by kernel_rfl, by kernel_rfl, by kernel_rfl, by kernel_rfl⟩ (hval 0 39 v0 rfl rfl) h0
  have k1 := h1
  have lt1 : ∀ x ∈ p1, x.block < W.heap.size := by obtain ⟨m, hm⟩ := k1; exact DataW.trod_lt m _ _ _ hm
  obtain ⟨C1, a1, n1, c1, l1, rfl, hn1, b1⟩ := open_ppp Try.underlying24 ⟨rfl, rfl⟩ Try.underlying3 Try.underlying22 Try.underlying5 ⟨by kernel_rfl, by kernel_rfl, by kernel_rfl, by kernel_rfl⟩ (hval 1 24 v1 rfl rfl) h1
  have k2 := h2
  have lt2 : ∀ x ∈ p2, x.block < W.heap.size := by obtain ⟨m, hm⟩ := k2; exact DataW.trod_lt m _ _ _ hm
  obtain ⟨a2, rfl, rfl, rfl, w2⟩ := open_int Try.underlying3 (hval 2 3 v2 rfl rfl) h2
  clear hA0 hval0
  refine (walk W C0 S0 a0 n0 c0 l0 hn0 b0 C1 a1 n1 c1 l1 hn1 b1 a2 w2).mono fun e W' ⟨he, bel⟩ => ?_
  subst he
  exact ⟨_, rfl, _, _, _, [], _, [], hW', trodAll_mk1 (shut_bool Try.underlying4 _), (trodAll_cons_mk (Below.trod laidOut (by kernel_rfl) (of_decide_eq_true (by kernel_rfl)) k0 bel lt0) (trodAll_cons_mk (Below.trod laidOut (by kernel_rfl) (of_decide_eq_true (by kernel_rfl)) k1 bel lt1) (trodAll_cons_mk (Below.trod laidOut (by kernel_rfl) (of_decide_eq_true (by kernel_rfl)) k2 bel lt2) trodAll_mk0))), rfl, bel.frame _, fun h => by cases h⟩
theorem over : Rows.cpBoundedRow.holds Try.pinned (OpenSpec.ofChange Rows.cpBoundedSpec) :=
  OpenClaim.holds_of_wide 7 Try.f7 rfl rfl rfl rfl rfl rfl rfl ⟨rfl, rfl, rfl, rfl, rfl⟩ rfl rfl rfl rfl rfl (by kernel_rfl) Try.func7 (by kernel_rfl)
    (of_decide_eq_true (by kernel_rfl)) (by unfold Func.isWrapper; first | (rw [if_pos (by decide +kernel)]; kernel_rfl) | (rw [if_neg (by decide +kernel)]; exact ⟨rfl, rfl⟩))
    (fun os started H enc _ => lifted os started H enc)
/-- The statement. -/
theorem proved : Rows.CpBoundedSaid := over
end Go.Proofs.Ythllhdcdiidfpaa.cpBounded
