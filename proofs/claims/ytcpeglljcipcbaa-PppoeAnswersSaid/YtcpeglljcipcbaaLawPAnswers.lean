/-
  For every question, number, type and text (no more of each than is looked at) pppoe.Session, pppoe.Refuse and pppoe.Terminate tell the packets that the document tells, and the same errors (conciergelaw06.PppoeAnswers answers true). No conditions.
-/
import Derived.Test.YtcpeglljcipcbaaPpS
import Derived.Test.YtcpeglljcipcbaaPpH
import Derived.Test.YtcpeglljcipcbaaPpK
import Derived.Test.YtcpeglljcipcbaaOpenP
import Derived.ProofKit
import Derived.OpenShut
import Derived.ShutString
import Derived.ChangeOld
namespace Go.Proofs.Ytcpeglljcipcbaa.pppoeAnswers
open Go.ChangeShapes Go.WideShapes Go.ChangeAt Go.RowKit
open Go.ChangeMaps (open_string shut_string)
set_option linter.unusedVariables false
set_option linter.unusedSimpArgs false

set_option maxRecDepth 20000 in
set_option maxHeartbeats 8000000 in
/-- Behind the text's cut. -/
theorem rest (W : World) (d : Dm) (dk : DOk W d) (du : d.ul.length = d.un) (dr : d.rl.length = d.rn) (dc : d.kl.length = d.kn) (id T : Int) (y : ByteArray) (hy : y.size ≤ 1600) (Y : ByteArray) (hY : (Y.size ≤ 1600 ∧ Y = y) ∨ (¬ Y.size ≤ 1600 ∧ Y.extract 0 1600 = y)) :
    Calls Try.prog 5 #[.agg #[.int .i64 d.c, .int .i64 d.s, .string d.v, .slice d.ua d.un d.uc, .slice d.ra d.rn d.rc, .bool d.hu, .bool d.hr, .slice d.ka d.kn d.kc], .int .i64 id, .int .i64 T, .string Y] W fun e w' => e = .returned (.bool true) ∧ Below W.heap.size W w' := by
  have HB1 : Hid (Below W.heap.size W (W.alloc (.cells #[.int .i64 d.c, .int .i64 d.s, .string d.v, .slice d.ua d.un d.uc, .slice d.ra d.rn d.rc, .bool d.hu, .bool d.hr, .slice d.ka d.kn d.kc] 36))) := (Below.refl _ _).alloc (Nat.le_refl _) _
  have HG1 : Hid ((W.alloc (.cells #[.int .i64 d.c, .int .i64 d.s, .string d.v, .slice d.ua d.un d.uc, .slice d.ra d.rn d.rc, .bool d.hu, .bool d.hr, .slice d.ka d.kn d.kc] 36)).heap[W.heap.size]? = some (.cells #[.int .i64 d.c, .int .i64 d.s, .string d.v, .slice d.ua d.un d.uc, .slice d.ra d.rn d.rc, .bool d.hu, .bool d.hr, .slice d.ka d.kn d.kc] 36 (0, 0))) := heap_alloc_last _ _
  have FW : Hid (∀ w', Calls Try.prog 17 #[.agg #[.int .i64 d.c, .int .i64 d.s, .string d.v, .slice d.ua d.un d.uc, .slice d.ra d.rn d.rc, .bool d.hu, .bool d.hr, .slice d.ka d.kn d.kc]] w' fun e w'' => ∃ d : Dm, e = .returned (.agg #[.int .i64 d.c, .int .i64 d.s, .string d.v, .slice d.ua d.un d.uc, .slice d.ra d.rn d.rc, .bool d.hu, .bool d.hr, .slice d.ka d.kn d.kc]) ∧ DOk W d ∧ DShort d ∧ Below w'.heap.size w' w'') := fun w' => few_any d W w' dk du dr dc
  have HY := Lib.hid hy
  have AW := Lib.hid awake_any
  clear dk du dr dc hy
  rcases hY with ⟨hY1, hY2⟩ | ⟨hY1, hY2⟩
  · obtain rfl : y = Y := hY2.symm
    go_enter Try.func5, Try.ntmps5
    go_wp2_with fail
    refine (FW.out _).mono ?_
    rintro e w2 ⟨d', rfl, hdk, hds, hb2⟩
    have HB2 := Lib.hid (HB1.out.trans (hb2.mono HB1.out.size))
    have HG2 := Lib.hid (heap_below HG1.out hb2)
    have HDK := Lib.hid hdk
    have HDS := Lib.hid hds
    clear hdk hds hb2
    go_wp2_with (with_reducible refine wpList_store_whole rfl 36 (.tmp 4) (.tmp 27) rfl W.heap.size [.int .i64 d'.c, .int .i64 d'.s, .string d'.v, .slice d'.ua d'.un d'.uc, .slice d'.ra d'.rn d'.rc, .bool d'.hu, .bool d'.hr, .slice d'.ka d'.kn d'.kc] rfl rfl 36 [.int .i64 d.c, .int .i64 d.s, .string d.v, .slice d.ua d.un d.uc, .slice d.ra d.rn d.rc, .bool d.hu, .bool d.hr, .slice d.ka d.kn d.kc] HG2.out ?s1 rfl ?s2 ?_)
    case s1 => kernel_rfl
    case s2 => exact one8 ⟨rfl, rfl, rfl, rfl, rfl, rfl, rfl, rfl⟩
    intro w3 h3 ho3
    have H3 := Lib.hid h3
    have HB3 := Lib.hid (ho3.below _ _ (Nat.le_refl _) HB2.out)
    clear h3 ho3
    obtain ⟨r1, hr1⟩ : ∃ r, r = sessP d'.plain id := ⟨_, rfl⟩
    obtain ⟨r2, hr2⟩ : ∃ r, r = refP d'.plain T y := ⟨_, rfl⟩
    obtain ⟨r3, hr3⟩ : ∃ r, r = termP id := ⟨_, rfl⟩
    have HR1 := Lib.hid hr1
    have HR2 := Lib.hid hr2
    have HR3 := Lib.hid hr3
    clear hr1 hr2 hr3
    obtain ⟨k0, k1, k2, k3, k4, k5, k6, k7⟩ := cells8 H3.out
    have C10 := session_any d' id w3 (HDK.out.below HB3.out) HDS.out
    rw [← HR1.out] at C10
    have HC10 := Lib.hid C10
    clear C10
    go_wp2_with fail
    refine HC10.out.mono ?_
    rintro e v10 ⟨A10, L10, C10, rfl, hown, hb⟩
    have hE : Below v10.heap.size v10 (v10.alloc (.cells #[.int .i64 r1.1.c, .int .i64 r1.1.s, .slice A10 L10 C10] 24)) := (Below.refl _ _).alloc (Nat.le_refl _) _
    have hB := hb.trans (hE.mono hb.size)
    have HB10 := Lib.hid (HB3.out.trans (hB.mono HB3.out.size))
    have H10 := Lib.hid (heap_below H3.out hB)
    have HP10_10 : Hid ((v10.alloc (.cells #[.int .i64 r1.1.c, .int .i64 r1.1.s, .slice A10 L10 C10] 24)).heap[v10.heap.size]? = some (.cells #[.int .i64 r1.1.c, .int .i64 r1.1.s, .slice A10 L10 C10] 24 (0, 0))) := heap_alloc_last _ _
    have HQ10_10 := Lib.hid (hown.bs.below hE)
    clear hown hb hE hB HC10 k0 k1 k2 k3 k4 k5 k6 k7
    obtain ⟨k0, k1, k2, k3, k4, k5, k6, k7⟩ := cells8 H10.out
    have C11 := rsession_any d' id _ (HDK.out.below HB10.out) HDS.out
    rw [← HR1.out] at C11
    have HC11 := Lib.hid C11
    clear C11
    go_wp2_with fail
    refine HC11.out.mono ?_
    rintro e v11 ⟨A11, L11, C11, rfl, hown, hb⟩
    have hE : Below v11.heap.size v11 (v11.alloc (.cells #[.int .i64 r1.1.c, .int .i64 r1.1.s, .slice A11 L11 C11] 24)) := (Below.refl _ _).alloc (Nat.le_refl _) _
    have hB := hb.trans (hE.mono hb.size)
    have HB11 := Lib.hid (HB10.out.trans (hB.mono HB10.out.size))
    have H11 := Lib.hid (heap_below H10.out hB)
    have HP10_11 := Lib.hid (heap_below HP10_10.out hB)
    have HQ10_11 := Lib.hid (HQ10_10.out.below hB)
    have HP11_11 : Hid ((v11.alloc (.cells #[.int .i64 r1.1.c, .int .i64 r1.1.s, .slice A11 L11 C11] 24)).heap[v11.heap.size]? = some (.cells #[.int .i64 r1.1.c, .int .i64 r1.1.s, .slice A11 L11 C11] 24 (0, 0))) := heap_alloc_last _ _
    have HQ11_11 := Lib.hid (hown.bs.below hE)
    clear hown hb hE hB HC11 k0 k1 k2 k3 k4 k5 k6 k7
    obtain ⟨k0, k1, k2, k3, k4, k5, k6, k7⟩ := cells8 H11.out
    have C12 := refuse_any d' T y _ (HDK.out.below HB11.out) HDS.out HY.out
    rw [← HR2.out] at C12
    have HC12 := Lib.hid C12
    clear C12
    go_wp2_with fail
    refine HC12.out.mono ?_
    rintro e v12 ⟨A12, L12, C12, rfl, hown, hb⟩
    have hE : Below v12.heap.size v12 (v12.alloc (.cells #[.int .i64 r2.1.c, .int .i64 r2.1.s, .slice A12 L12 C12] 24)) := (Below.refl _ _).alloc (Nat.le_refl _) _
    have hB := hb.trans (hE.mono hb.size)
    have HB12 := Lib.hid (HB11.out.trans (hB.mono HB11.out.size))
    have H12 := Lib.hid (heap_below H11.out hB)
    have HP10_12 := Lib.hid (heap_below HP10_11.out hB)
    have HQ10_12 := Lib.hid (HQ10_11.out.below hB)
    have HP11_12 := Lib.hid (heap_below HP11_11.out hB)
    have HQ11_12 := Lib.hid (HQ11_11.out.below hB)
    have HP12_12 : Hid ((v12.alloc (.cells #[.int .i64 r2.1.c, .int .i64 r2.1.s, .slice A12 L12 C12] 24)).heap[v12.heap.size]? = some (.cells #[.int .i64 r2.1.c, .int .i64 r2.1.s, .slice A12 L12 C12] 24 (0, 0))) := heap_alloc_last _ _
    have HQ12_12 := Lib.hid (hown.bs.below hE)
    clear hown hb hE hB HC12 k0 k1 k2 k3 k4 k5 k6 k7
    obtain ⟨k0, k1, k2, k3, k4, k5, k6, k7⟩ := cells8 H12.out
    have C13 := rrefuse_any d' T y _ (HDK.out.below HB12.out) HDS.out HY.out
    rw [← HR2.out] at C13
    have HC13 := Lib.hid C13
    clear C13
    go_wp2_with fail
    refine HC13.out.mono ?_
    rintro e v13 ⟨A13, L13, C13, rfl, hown, hb⟩
    have hE : Below v13.heap.size v13 (v13.alloc (.cells #[.int .i64 r2.1.c, .int .i64 r2.1.s, .slice A13 L13 C13] 24)) := (Below.refl _ _).alloc (Nat.le_refl _) _
    have hB := hb.trans (hE.mono hb.size)
    have HB13 := Lib.hid (HB12.out.trans (hB.mono HB12.out.size))
    have HP10_13 := Lib.hid (heap_below HP10_12.out hB)
    have HQ10_13 := Lib.hid (HQ10_12.out.below hB)
    have HP11_13 := Lib.hid (heap_below HP11_12.out hB)
    have HQ11_13 := Lib.hid (HQ11_12.out.below hB)
    have HP12_13 := Lib.hid (heap_below HP12_12.out hB)
    have HQ12_13 := Lib.hid (HQ12_12.out.below hB)
    have HP13_13 : Hid ((v13.alloc (.cells #[.int .i64 r2.1.c, .int .i64 r2.1.s, .slice A13 L13 C13] 24)).heap[v13.heap.size]? = some (.cells #[.int .i64 r2.1.c, .int .i64 r2.1.s, .slice A13 L13 C13] 24 (0, 0))) := heap_alloc_last _ _
    have HQ13_13 := Lib.hid (hown.bs.below hE)
    clear hown hb hE hB HC13 k0 k1 k2 k3 k4 k5 k6 k7
    have C14 := terminate_any id (v13.alloc (.cells #[.int .i64 r2.1.c, .int .i64 r2.1.s, .slice A13 L13 C13] 24))
    rw [← HR3.out] at C14
    have HC14 := Lib.hid C14
    clear C14
    go_wp2_with fail
    refine HC14.out.mono ?_
    rintro e v14 ⟨A14, L14, C14, rfl, hown, hb⟩
    have hE : Below v14.heap.size v14 (v14.alloc (.cells #[.int .i64 r3.1.c, .int .i64 r3.1.s, .slice A14 L14 C14] 24)) := (Below.refl _ _).alloc (Nat.le_refl _) _
    have hB := hb.trans (hE.mono hb.size)
    have HB14 := Lib.hid (HB13.out.trans (hB.mono HB13.out.size))
    have HP10_14 := Lib.hid (heap_below HP10_13.out hB)
    have HQ10_14 := Lib.hid (HQ10_13.out.below hB)
    have HP11_14 := Lib.hid (heap_below HP11_13.out hB)
    have HQ11_14 := Lib.hid (HQ11_13.out.below hB)
    have HP12_14 := Lib.hid (heap_below HP12_13.out hB)
    have HQ12_14 := Lib.hid (HQ12_13.out.below hB)
    have HP13_14 := Lib.hid (heap_below HP13_13.out hB)
    have HQ13_14 := Lib.hid (HQ13_13.out.below hB)
    have HP14_14 : Hid ((v14.alloc (.cells #[.int .i64 r3.1.c, .int .i64 r3.1.s, .slice A14 L14 C14] 24)).heap[v14.heap.size]? = some (.cells #[.int .i64 r3.1.c, .int .i64 r3.1.s, .slice A14 L14 C14] 24 (0, 0))) := heap_alloc_last _ _
    have HQ14_14 := Lib.hid (hown.bs.below hE)
    clear hown hb hE hB HC14
    have C15 := rterminate_any id (v14.alloc (.cells #[.int .i64 r3.1.c, .int .i64 r3.1.s, .slice A14 L14 C14] 24))
    rw [← HR3.out] at C15
    have HC15 := Lib.hid C15
    clear C15
    go_wp2_with fail
    refine HC15.out.mono ?_
    rintro e v15 ⟨A15, L15, C15, rfl, hown, hb⟩
    have hE : Below v15.heap.size v15 (v15.alloc (.cells #[.int .i64 r3.1.c, .int .i64 r3.1.s, .slice A15 L15 C15] 24)) := (Below.refl _ _).alloc (Nat.le_refl _) _
    have hB := hb.trans (hE.mono hb.size)
    have HB15 := Lib.hid (HB14.out.trans (hB.mono HB14.out.size))
    have HP10_15 := Lib.hid (heap_below HP10_14.out hB)
    have HQ10_15 := Lib.hid (HQ10_14.out.below hB)
    have HP11_15 := Lib.hid (heap_below HP11_14.out hB)
    have HQ11_15 := Lib.hid (HQ11_14.out.below hB)
    have HP12_15 := Lib.hid (heap_below HP12_14.out hB)
    have HQ12_15 := Lib.hid (HQ12_14.out.below hB)
    have HP13_15 := Lib.hid (heap_below HP13_14.out hB)
    have HQ13_15 := Lib.hid (HQ13_14.out.below hB)
    have HP14_15 := Lib.hid (heap_below HP14_14.out hB)
    have HQ14_15 := Lib.hid (HQ14_14.out.below hB)
    have HP15_15 : Hid ((v15.alloc (.cells #[.int .i64 r3.1.c, .int .i64 r3.1.s, .slice A15 L15 C15] 24)).heap[v15.heap.size]? = some (.cells #[.int .i64 r3.1.c, .int .i64 r3.1.s, .slice A15 L15 C15] 24 (0, 0))) := heap_alloc_last _ _
    have HQ15_15 := Lib.hid (hown.bs.below hE)
    clear hown hb hE hB HC15
    obtain ⟨p0, p1, p2⟩ := cells3 HP10_15.out
    obtain ⟨q0, q1, q2⟩ := cells3 HP11_15.out
    have hl : L11 = L10 := by
      obtain ⟨_, _, _, e1, h1, _, _⟩ := HQ10_15.out.sl
      obtain ⟨_, _, _, e2, h2, _, _⟩ := HQ11_15.out.sl
      simp only [Value.slice.injEq] at e1 e2
      rw [e1.2.1, e2.2.1, ← h1, ← h2]
    have hqb := HQ11_15.out
    rw [hl] at q2 hqb
    have SM := Lib.hid (psame_true r1.1.c r1.1.s A10 A11 L10 C10 C11 _ _ HQ10_15.out hqb)
    clear hqb hl
    go_wp2_with fail
    refine SM.out.mono ?_
    rintro e ws0 ⟨rfl, hb⟩
    have HBs0 := Lib.hid (HB15.out.trans (hb.mono HB15.out.size))
    have HP12_s0 := Lib.hid (heap_below HP12_15.out hb)
    have HQ12_s0 := Lib.hid (HQ12_15.out.below hb)
    have HP13_s0 := Lib.hid (heap_below HP13_15.out hb)
    have HQ13_s0 := Lib.hid (HQ13_15.out.below hb)
    have HP14_s0 := Lib.hid (heap_below HP14_15.out hb)
    have HQ14_s0 := Lib.hid (HQ14_15.out.below hb)
    have HP15_s0 := Lib.hid (heap_below HP15_15.out hb)
    have HQ15_s0 := Lib.hid (HQ15_15.out.below hb)
    clear hb SM p0 p1 p2 q0 q1 q2
    obtain ⟨p0, p1, p2⟩ := cells3 HP12_s0.out
    obtain ⟨q0, q1, q2⟩ := cells3 HP13_s0.out
    have hl : L13 = L12 := by
      obtain ⟨_, _, _, e1, h1, _, _⟩ := HQ12_s0.out.sl
      obtain ⟨_, _, _, e2, h2, _, _⟩ := HQ13_s0.out.sl
      simp only [Value.slice.injEq] at e1 e2
      rw [e1.2.1, e2.2.1, ← h1, ← h2]
    have hqb := HQ13_s0.out
    rw [hl] at q2 hqb
    have SM := Lib.hid (psame_true r2.1.c r2.1.s A12 A13 L12 C12 C13 _ _ HQ12_s0.out hqb)
    clear hqb hl
    go_wp2_with fail
    refine SM.out.mono ?_
    rintro e ws1 ⟨rfl, hb⟩
    have HBs1 := Lib.hid (HBs0.out.trans (hb.mono HBs0.out.size))
    have HP14_s1 := Lib.hid (heap_below HP14_s0.out hb)
    have HQ14_s1 := Lib.hid (HQ14_s0.out.below hb)
    have HP15_s1 := Lib.hid (heap_below HP15_s0.out hb)
    have HQ15_s1 := Lib.hid (HQ15_s0.out.below hb)
    clear hb SM p0 p1 p2 q0 q1 q2
    obtain ⟨p0, p1, p2⟩ := cells3 HP14_s1.out
    obtain ⟨q0, q1, q2⟩ := cells3 HP15_s1.out
    have hl : L15 = L14 := by
      obtain ⟨_, _, _, e1, h1, _, _⟩ := HQ14_s1.out.sl
      obtain ⟨_, _, _, e2, h2, _, _⟩ := HQ15_s1.out.sl
      simp only [Value.slice.injEq] at e1 e2
      rw [e1.2.1, e2.2.1, ← h1, ← h2]
    have hqb := HQ15_s1.out
    rw [hl] at q2 hqb
    have SM := Lib.hid (psame_true r3.1.c r3.1.s A14 A15 L14 C14 C15 _ _ HQ14_s1.out hqb)
    clear hqb hl
    go_wp2_with fail
    refine SM.out.mono ?_
    rintro e ws2 ⟨rfl, hb⟩
    have HBs2 := Lib.hid (HBs1.out.trans (hb.mono HBs1.out.size))
    clear hb SM p0 p1 p2 q0 q1 q2
    go_wp2_with fail
    refine (AW.out ws2).mono ?_
    rintro e w9 ⟨rfl, hb9⟩
    have HB9 := Lib.hid (HBs2.out.trans (hb9.mono HBs2.out.size))
    clear hb9
    go_wp2
    go_ret
    exact ⟨by simp, HB9.out⟩
  · go_enter Try.func5, Try.ntmps5
    go_wp2_with fail
    refine (FW.out _).mono ?_
    rintro e w2 ⟨d', rfl, hdk, hds, hb2⟩
    have HB2 := Lib.hid (HB1.out.trans (hb2.mono HB1.out.size))
    have HG2 := Lib.hid (heap_below HG1.out hb2)
    have HDK := Lib.hid hdk
    have HDS := Lib.hid hds
    clear hdk hds hb2
    go_wp2_with (with_reducible refine wpList_store_whole rfl 36 (.tmp 4) (.tmp 27) rfl W.heap.size [.int .i64 d'.c, .int .i64 d'.s, .string d'.v, .slice d'.ua d'.un d'.uc, .slice d'.ra d'.rn d'.rc, .bool d'.hu, .bool d'.hr, .slice d'.ka d'.kn d'.kc] rfl rfl 36 [.int .i64 d.c, .int .i64 d.s, .string d.v, .slice d.ua d.un d.uc, .slice d.ra d.rn d.rc, .bool d.hu, .bool d.hr, .slice d.ka d.kn d.kc] HG2.out ?s1 rfl ?s2 ?_)
    case s1 => kernel_rfl
    case s2 => exact one8 ⟨rfl, rfl, rfl, rfl, rfl, rfl, rfl, rfl⟩
    intro w3 h3 ho3
    have H3 := Lib.hid h3
    have HB3 := Lib.hid (ho3.below _ _ (Nat.le_refl _) HB2.out)
    clear h3 ho3
    obtain ⟨r1, hr1⟩ : ∃ r, r = sessP d'.plain id := ⟨_, rfl⟩
    obtain ⟨r2, hr2⟩ : ∃ r, r = refP d'.plain T y := ⟨_, rfl⟩
    obtain ⟨r3, hr3⟩ : ∃ r, r = termP id := ⟨_, rfl⟩
    have HR1 := Lib.hid hr1
    have HR2 := Lib.hid hr2
    have HR3 := Lib.hid hr3
    clear hr1 hr2 hr3
    obtain ⟨k0, k1, k2, k3, k4, k5, k6, k7⟩ := cells8 H3.out
    have C10 := session_any d' id w3 (HDK.out.below HB3.out) HDS.out
    rw [← HR1.out] at C10
    have HC10 := Lib.hid C10
    clear C10
    go_wp2_with fail
    refine HC10.out.mono ?_
    rintro e v10 ⟨A10, L10, C10, rfl, hown, hb⟩
    have hE : Below v10.heap.size v10 (v10.alloc (.cells #[.int .i64 r1.1.c, .int .i64 r1.1.s, .slice A10 L10 C10] 24)) := (Below.refl _ _).alloc (Nat.le_refl _) _
    have hB := hb.trans (hE.mono hb.size)
    have HB10 := Lib.hid (HB3.out.trans (hB.mono HB3.out.size))
    have H10 := Lib.hid (heap_below H3.out hB)
    have HP10_10 : Hid ((v10.alloc (.cells #[.int .i64 r1.1.c, .int .i64 r1.1.s, .slice A10 L10 C10] 24)).heap[v10.heap.size]? = some (.cells #[.int .i64 r1.1.c, .int .i64 r1.1.s, .slice A10 L10 C10] 24 (0, 0))) := heap_alloc_last _ _
    have HQ10_10 := Lib.hid (hown.bs.below hE)
    clear hown hb hE hB HC10 k0 k1 k2 k3 k4 k5 k6 k7
    obtain ⟨k0, k1, k2, k3, k4, k5, k6, k7⟩ := cells8 H10.out
    have C11 := rsession_any d' id _ (HDK.out.below HB10.out) HDS.out
    rw [← HR1.out] at C11
    have HC11 := Lib.hid C11
    clear C11
    go_wp2_with fail
    refine HC11.out.mono ?_
    rintro e v11 ⟨A11, L11, C11, rfl, hown, hb⟩
    have hE : Below v11.heap.size v11 (v11.alloc (.cells #[.int .i64 r1.1.c, .int .i64 r1.1.s, .slice A11 L11 C11] 24)) := (Below.refl _ _).alloc (Nat.le_refl _) _
    have hB := hb.trans (hE.mono hb.size)
    have HB11 := Lib.hid (HB10.out.trans (hB.mono HB10.out.size))
    have H11 := Lib.hid (heap_below H10.out hB)
    have HP10_11 := Lib.hid (heap_below HP10_10.out hB)
    have HQ10_11 := Lib.hid (HQ10_10.out.below hB)
    have HP11_11 : Hid ((v11.alloc (.cells #[.int .i64 r1.1.c, .int .i64 r1.1.s, .slice A11 L11 C11] 24)).heap[v11.heap.size]? = some (.cells #[.int .i64 r1.1.c, .int .i64 r1.1.s, .slice A11 L11 C11] 24 (0, 0))) := heap_alloc_last _ _
    have HQ11_11 := Lib.hid (hown.bs.below hE)
    clear hown hb hE hB HC11 k0 k1 k2 k3 k4 k5 k6 k7
    obtain ⟨k0, k1, k2, k3, k4, k5, k6, k7⟩ := cells8 H11.out
    have C12 := refuse_any d' T y _ (HDK.out.below HB11.out) HDS.out HY.out
    rw [← HR2.out] at C12
    have HC12 := Lib.hid C12
    clear C12
    go_wp2_with fail
    refine HC12.out.mono ?_
    rintro e v12 ⟨A12, L12, C12, rfl, hown, hb⟩
    have hE : Below v12.heap.size v12 (v12.alloc (.cells #[.int .i64 r2.1.c, .int .i64 r2.1.s, .slice A12 L12 C12] 24)) := (Below.refl _ _).alloc (Nat.le_refl _) _
    have hB := hb.trans (hE.mono hb.size)
    have HB12 := Lib.hid (HB11.out.trans (hB.mono HB11.out.size))
    have H12 := Lib.hid (heap_below H11.out hB)
    have HP10_12 := Lib.hid (heap_below HP10_11.out hB)
    have HQ10_12 := Lib.hid (HQ10_11.out.below hB)
    have HP11_12 := Lib.hid (heap_below HP11_11.out hB)
    have HQ11_12 := Lib.hid (HQ11_11.out.below hB)
    have HP12_12 : Hid ((v12.alloc (.cells #[.int .i64 r2.1.c, .int .i64 r2.1.s, .slice A12 L12 C12] 24)).heap[v12.heap.size]? = some (.cells #[.int .i64 r2.1.c, .int .i64 r2.1.s, .slice A12 L12 C12] 24 (0, 0))) := heap_alloc_last _ _
    have HQ12_12 := Lib.hid (hown.bs.below hE)
    clear hown hb hE hB HC12 k0 k1 k2 k3 k4 k5 k6 k7
    obtain ⟨k0, k1, k2, k3, k4, k5, k6, k7⟩ := cells8 H12.out
    have C13 := rrefuse_any d' T y _ (HDK.out.below HB12.out) HDS.out HY.out
    rw [← HR2.out] at C13
    have HC13 := Lib.hid C13
    clear C13
    go_wp2_with fail
    refine HC13.out.mono ?_
    rintro e v13 ⟨A13, L13, C13, rfl, hown, hb⟩
    have hE : Below v13.heap.size v13 (v13.alloc (.cells #[.int .i64 r2.1.c, .int .i64 r2.1.s, .slice A13 L13 C13] 24)) := (Below.refl _ _).alloc (Nat.le_refl _) _
    have hB := hb.trans (hE.mono hb.size)
    have HB13 := Lib.hid (HB12.out.trans (hB.mono HB12.out.size))
    have HP10_13 := Lib.hid (heap_below HP10_12.out hB)
    have HQ10_13 := Lib.hid (HQ10_12.out.below hB)
    have HP11_13 := Lib.hid (heap_below HP11_12.out hB)
    have HQ11_13 := Lib.hid (HQ11_12.out.below hB)
    have HP12_13 := Lib.hid (heap_below HP12_12.out hB)
    have HQ12_13 := Lib.hid (HQ12_12.out.below hB)
    have HP13_13 : Hid ((v13.alloc (.cells #[.int .i64 r2.1.c, .int .i64 r2.1.s, .slice A13 L13 C13] 24)).heap[v13.heap.size]? = some (.cells #[.int .i64 r2.1.c, .int .i64 r2.1.s, .slice A13 L13 C13] 24 (0, 0))) := heap_alloc_last _ _
    have HQ13_13 := Lib.hid (hown.bs.below hE)
    clear hown hb hE hB HC13 k0 k1 k2 k3 k4 k5 k6 k7
    have C14 := terminate_any id (v13.alloc (.cells #[.int .i64 r2.1.c, .int .i64 r2.1.s, .slice A13 L13 C13] 24))
    rw [← HR3.out] at C14
    have HC14 := Lib.hid C14
    clear C14
    go_wp2_with fail
    refine HC14.out.mono ?_
    rintro e v14 ⟨A14, L14, C14, rfl, hown, hb⟩
    have hE : Below v14.heap.size v14 (v14.alloc (.cells #[.int .i64 r3.1.c, .int .i64 r3.1.s, .slice A14 L14 C14] 24)) := (Below.refl _ _).alloc (Nat.le_refl _) _
    have hB := hb.trans (hE.mono hb.size)
    have HB14 := Lib.hid (HB13.out.trans (hB.mono HB13.out.size))
    have HP10_14 := Lib.hid (heap_below HP10_13.out hB)
    have HQ10_14 := Lib.hid (HQ10_13.out.below hB)
    have HP11_14 := Lib.hid (heap_below HP11_13.out hB)
    have HQ11_14 := Lib.hid (HQ11_13.out.below hB)
    have HP12_14 := Lib.hid (heap_below HP12_13.out hB)
    have HQ12_14 := Lib.hid (HQ12_13.out.below hB)
    have HP13_14 := Lib.hid (heap_below HP13_13.out hB)
    have HQ13_14 := Lib.hid (HQ13_13.out.below hB)
    have HP14_14 : Hid ((v14.alloc (.cells #[.int .i64 r3.1.c, .int .i64 r3.1.s, .slice A14 L14 C14] 24)).heap[v14.heap.size]? = some (.cells #[.int .i64 r3.1.c, .int .i64 r3.1.s, .slice A14 L14 C14] 24 (0, 0))) := heap_alloc_last _ _
    have HQ14_14 := Lib.hid (hown.bs.below hE)
    clear hown hb hE hB HC14
    have C15 := rterminate_any id (v14.alloc (.cells #[.int .i64 r3.1.c, .int .i64 r3.1.s, .slice A14 L14 C14] 24))
    rw [← HR3.out] at C15
    have HC15 := Lib.hid C15
    clear C15
    go_wp2_with fail
    refine HC15.out.mono ?_
    rintro e v15 ⟨A15, L15, C15, rfl, hown, hb⟩
    have hE : Below v15.heap.size v15 (v15.alloc (.cells #[.int .i64 r3.1.c, .int .i64 r3.1.s, .slice A15 L15 C15] 24)) := (Below.refl _ _).alloc (Nat.le_refl _) _
    have hB := hb.trans (hE.mono hb.size)
    have HB15 := Lib.hid (HB14.out.trans (hB.mono HB14.out.size))
    have HP10_15 := Lib.hid (heap_below HP10_14.out hB)
    have HQ10_15 := Lib.hid (HQ10_14.out.below hB)
    have HP11_15 := Lib.hid (heap_below HP11_14.out hB)
    have HQ11_15 := Lib.hid (HQ11_14.out.below hB)
    have HP12_15 := Lib.hid (heap_below HP12_14.out hB)
    have HQ12_15 := Lib.hid (HQ12_14.out.below hB)
    have HP13_15 := Lib.hid (heap_below HP13_14.out hB)
    have HQ13_15 := Lib.hid (HQ13_14.out.below hB)
    have HP14_15 := Lib.hid (heap_below HP14_14.out hB)
    have HQ14_15 := Lib.hid (HQ14_14.out.below hB)
    have HP15_15 : Hid ((v15.alloc (.cells #[.int .i64 r3.1.c, .int .i64 r3.1.s, .slice A15 L15 C15] 24)).heap[v15.heap.size]? = some (.cells #[.int .i64 r3.1.c, .int .i64 r3.1.s, .slice A15 L15 C15] 24 (0, 0))) := heap_alloc_last _ _
    have HQ15_15 := Lib.hid (hown.bs.below hE)
    clear hown hb hE hB HC15
    obtain ⟨p0, p1, p2⟩ := cells3 HP10_15.out
    obtain ⟨q0, q1, q2⟩ := cells3 HP11_15.out
    have hl : L11 = L10 := by
      obtain ⟨_, _, _, e1, h1, _, _⟩ := HQ10_15.out.sl
      obtain ⟨_, _, _, e2, h2, _, _⟩ := HQ11_15.out.sl
      simp only [Value.slice.injEq] at e1 e2
      rw [e1.2.1, e2.2.1, ← h1, ← h2]
    have hqb := HQ11_15.out
    rw [hl] at q2 hqb
    have SM := Lib.hid (psame_true r1.1.c r1.1.s A10 A11 L10 C10 C11 _ _ HQ10_15.out hqb)
    clear hqb hl
    go_wp2_with fail
    refine SM.out.mono ?_
    rintro e ws0 ⟨rfl, hb⟩
    have HBs0 := Lib.hid (HB15.out.trans (hb.mono HB15.out.size))
    have HP12_s0 := Lib.hid (heap_below HP12_15.out hb)
    have HQ12_s0 := Lib.hid (HQ12_15.out.below hb)
    have HP13_s0 := Lib.hid (heap_below HP13_15.out hb)
    have HQ13_s0 := Lib.hid (HQ13_15.out.below hb)
    have HP14_s0 := Lib.hid (heap_below HP14_15.out hb)
    have HQ14_s0 := Lib.hid (HQ14_15.out.below hb)
    have HP15_s0 := Lib.hid (heap_below HP15_15.out hb)
    have HQ15_s0 := Lib.hid (HQ15_15.out.below hb)
    clear hb SM p0 p1 p2 q0 q1 q2
    obtain ⟨p0, p1, p2⟩ := cells3 HP12_s0.out
    obtain ⟨q0, q1, q2⟩ := cells3 HP13_s0.out
    have hl : L13 = L12 := by
      obtain ⟨_, _, _, e1, h1, _, _⟩ := HQ12_s0.out.sl
      obtain ⟨_, _, _, e2, h2, _, _⟩ := HQ13_s0.out.sl
      simp only [Value.slice.injEq] at e1 e2
      rw [e1.2.1, e2.2.1, ← h1, ← h2]
    have hqb := HQ13_s0.out
    rw [hl] at q2 hqb
    have SM := Lib.hid (psame_true r2.1.c r2.1.s A12 A13 L12 C12 C13 _ _ HQ12_s0.out hqb)
    clear hqb hl
    go_wp2_with fail
    refine SM.out.mono ?_
    rintro e ws1 ⟨rfl, hb⟩
    have HBs1 := Lib.hid (HBs0.out.trans (hb.mono HBs0.out.size))
    have HP14_s1 := Lib.hid (heap_below HP14_s0.out hb)
    have HQ14_s1 := Lib.hid (HQ14_s0.out.below hb)
    have HP15_s1 := Lib.hid (heap_below HP15_s0.out hb)
    have HQ15_s1 := Lib.hid (HQ15_s0.out.below hb)
    clear hb SM p0 p1 p2 q0 q1 q2
    obtain ⟨p0, p1, p2⟩ := cells3 HP14_s1.out
    obtain ⟨q0, q1, q2⟩ := cells3 HP15_s1.out
    have hl : L15 = L14 := by
      obtain ⟨_, _, _, e1, h1, _, _⟩ := HQ14_s1.out.sl
      obtain ⟨_, _, _, e2, h2, _, _⟩ := HQ15_s1.out.sl
      simp only [Value.slice.injEq] at e1 e2
      rw [e1.2.1, e2.2.1, ← h1, ← h2]
    have hqb := HQ15_s1.out
    rw [hl] at q2 hqb
    have SM := Lib.hid (psame_true r3.1.c r3.1.s A14 A15 L14 C14 C15 _ _ HQ14_s1.out hqb)
    clear hqb hl
    go_wp2_with fail
    refine SM.out.mono ?_
    rintro e ws2 ⟨rfl, hb⟩
    have HBs2 := Lib.hid (HBs1.out.trans (hb.mono HBs1.out.size))
    clear hb SM p0 p1 p2 q0 q1 q2
    go_wp2_with fail
    refine (AW.out ws2).mono ?_
    rintro e w9 ⟨rfl, hb9⟩
    have HB9 := Lib.hid (HBs2.out.trans (hb9.mono HBs2.out.size))
    clear hb9
    go_wp2
    go_ret
    exact ⟨by simp, HB9.out⟩

theorem walk (W : World) (d : Dm) (dk : DOk W d) (du : d.ul.length = d.un) (dr : d.rl.length = d.rn) (dc : d.kl.length = d.kn) (dv : d.v.size ≤ maxLen) (id : Int) (wi : (Lit.int .i64 id).wf = true) (T : Int) (wt : (Lit.int .i64 T).wf = true) (Y : ByteArray) (hs : Y.size ≤ maxLen) :
    Calls Try.prog 5 #[.agg #[.int .i64 d.c, .int .i64 d.s, .string d.v, .slice d.ua d.un d.uc, .slice d.ra d.rn d.rc, .bool d.hu, .bool d.hr, .slice d.ka d.kn d.kc], .int .i64 id, .int .i64 T, .string Y] W fun e w' => e = .returned (.bool true) ∧ Below W.heap.size W w' := by
  by_cases h : Y.size ≤ 1600
  · exact rest W d dk du dr dc id T Y h Y (.inl ⟨h, rfl⟩)
  · exact rest W d dk du dr dc id T (Y.extract 0 1600) (by rw [ByteArray.size_extract]; omega) Y (.inr ⟨h, rfl⟩)

theorem own : ownKnob Try.prog.godebug = none := by kernel_rfl
theorem laidOut : laidOutB Try.prog = true := by kernel_rfl
set_option maxRecDepth 100000 in
theorem lifted (os : Os) (started : os.Started) (H : Type) (enc : TypeId × Value → H) :
    ReturnsInHanded {} Try.checked os 5 .any (Rows.pppoeAnswersSpec.pre6 enc Try.prog Try.f5 Rows.pppoeAnswersRow.domain false) (Rows.pppoeAnswersSpec.post enc Try.prog Try.f5 false true false false) := by
  refine returnsInHanded_of_change (C := Try.checked) own started (by kernel_rfl) Try.func5
    (ChangeSpec.witness6 (enc := enc) (C := Try.checked) false ⟨#[], #[.agg #[.int .i64 0, .int .i64 0, .string ⟨#[]⟩, .slice none 0 0, .slice none 0 0, .bool false, .bool false, .slice none 0 0], .int .i64 0, .int .i64 0, .string ⟨#[]⟩], []⟩ 8 (by kernel_rfl) (by kernel_rfl) (by kernel_rfl) (by kernel_rfl)) ?_
  intro W base args ds gs before hval0 hW hcnd _
  have hval : ∀ (j : Nat) t v, Try.f5.params[j]? = some t → args[j]? = some v → Value.okWide Try.prog W .any base t v := hval0
  have hW' := hW
  obtain ⟨p, q, hA0, hV, rfl, hfz, hnd⟩ := hW
  have hA : DataW.TrodAll enc Try.prog W 0 (fun _ => true) true Try.f5.params.toList args.toList ds p := hA0
  rw [Try.params5] at hA hval
  obtain ⟨v0, vs0, d0, ds0, p0, q0, hargs, rfl, rfl, h0, r0⟩ := trodAll_cons hA
  obtain ⟨v1, vs1, d1, ds1, p1, q1, rfl, rfl, rfl, h1, r1⟩ := trodAll_cons r0
  obtain ⟨v2, vs2, d2, ds2, p2, q2, rfl, rfl, rfl, h2, r2⟩ := trodAll_cons r1
  obtain ⟨v3, vs3, d3, ds3, p3, q3, rfl, rfl, rfl, h3, r3⟩ := trodAll_cons r2
  obtain ⟨rfl, rfl, rfl⟩ := trodAll_nil r3
  obtain rfl : args = #[v0, v1, v2, v3] := by cases args; simp_all
  obtain ⟨rfl, rfl⟩ := trodVars_none hV
  have k0 := h0
  have lt0 : ∀ x ∈ p0, x.block < W.heap.size := by obtain ⟨m, hm⟩ := k0; exact DataW.trod_lt m _ _ _ hm
  obtain ⟨d0, rfl, dk0, du0, dr0, dc0, dv0⟩ := open_disc Try.underlying36 ⟨rfl, rfl, rfl, rfl, rfl, rfl, rfl, rfl⟩ Try.underlying3 Try.underlying3 Try.underlying9 Try.underlying22 Try.underlying22 Try.underlying4 Try.underlying4 Try.underlying22 Try.underlying5 ⟨by kernel_rfl, by kernel_rfl, by kernel_rfl, by kernel_rfl, by kernel_rfl, by kernel_rfl, by kernel_rfl, by kernel_rfl, by kernel_rfl, by kernel_rfl⟩ (hval 0 36 v0 rfl rfl) h0
  have k1 := h1
  have lt1 : ∀ x ∈ p1, x.block < W.heap.size := by obtain ⟨m, hm⟩ := k1; exact DataW.trod_lt m _ _ _ hm
  obtain ⟨a1, rfl, rfl, rfl, w1⟩ := open_int Try.underlying3 (hval 1 3 v1 rfl rfl) h1
  have k2 := h2
  have lt2 : ∀ x ∈ p2, x.block < W.heap.size := by obtain ⟨m, hm⟩ := k2; exact DataW.trod_lt m _ _ _ hm
  obtain ⟨a2, rfl, rfl, rfl, w2⟩ := open_int Try.underlying3 (hval 2 3 v2 rfl rfl) h2
  have k3 := h3
  have lt3 : ∀ x ∈ p3, x.block < W.heap.size := by obtain ⟨m, hm⟩ := k3; exact DataW.trod_lt m _ _ _ hm
  obtain ⟨s3, rfl, rfl, rfl, hs3⟩ := open_string Try.underlying9 (hval 3 9 v3 rfl rfl) h3
  clear hA0 hval0
  refine (walk W d0 dk0 du0 dr0 dc0 dv0 a1 w1 a2 w2 s3 hs3).mono fun e W' ⟨he, bel⟩ => ?_
  subst he
  exact ⟨_, rfl, _, _, _, [], _, [], hW', trodAll_mk1 (shut_bool Try.underlying4 _), (trodAll_cons_mk (Below.trod laidOut (by kernel_rfl) (of_decide_eq_true (by kernel_rfl)) k0 bel lt0) (trodAll_cons_mk (Below.trod laidOut (by kernel_rfl) (of_decide_eq_true (by kernel_rfl)) k1 bel lt1) (trodAll_cons_mk (Below.trod laidOut (by kernel_rfl) (of_decide_eq_true (by kernel_rfl)) k2 bel lt2) (trodAll_cons_mk (Below.trod laidOut (by kernel_rfl) (of_decide_eq_true (by kernel_rfl)) k3 bel lt3) trodAll_mk0)))), rfl, bel.frame _, fun h => by cases h⟩
theorem over : Rows.pppoeAnswersRow.holds Try.pinned (OpenSpec.ofChange Rows.pppoeAnswersSpec) :=
  OpenClaim.holds_of_wide 5 Try.f5 rfl rfl rfl rfl rfl rfl rfl ⟨rfl, rfl, rfl, rfl, rfl⟩ rfl rfl rfl rfl rfl (by kernel_rfl) Try.func5 (by kernel_rfl)
    (of_decide_eq_true (by kernel_rfl)) (by unfold Func.isWrapper; first | (rw [if_pos (by decide +kernel)]; kernel_rfl) | (rw [if_neg (by decide +kernel)]; exact ⟨rfl, rfl⟩))
    (fun os started H enc _ => lifted os started H enc)
/-- The statement. -/
theorem proved : Rows.PppoeAnswersSaid := over
end Go.Proofs.Ytcpeglljcipcbaa.pppoeAnswers
