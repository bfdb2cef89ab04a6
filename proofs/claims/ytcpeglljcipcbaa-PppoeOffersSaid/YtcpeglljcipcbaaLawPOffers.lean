/-
  For every name, services, question and cookie (no more of each than is looked at) pppoe.Offer tells the packet that the document tells, and the same error (conciergelaw06.PppoeOffers answers true). No conditions.
-/
import Derived.Test.YtcpeglljcipcbaaPpS
import Derived.Test.YtcpeglljcipcbaaPpH
import Derived.Test.YtcpeglljcipcbaaPpL
import Derived.Test.YtcpeglljcipcbaaPpO
import Derived.Test.YtcpeglljcipcbaaOpenP
import Derived.ProofKit
import Derived.OpenShut
import Derived.ShutString
import Derived.ChangeOld
namespace Go.Proofs.Ytcpeglljcipcbaa.pppoeOffers
open Go.ChangeShapes Go.WideShapes Go.ChangeAt Go.RowKit
open Go.ChangeMaps (open_string shut_string)
set_option linter.unusedVariables false
set_option linter.unusedSimpArgs false

set_option maxRecDepth 20000 in
set_option maxHeartbeats 8000000 in
/-- Behind the name's cut. -/
theorem rest (W : World) (y : ByteArray) (hy : y.size ≤ 1600) (a1 : Option Addr) (n1 c1 : Nat) (ss : List ByteArray) (b1 : Rd W 1 (.slice a1 n1 c1) n1 (ss.map Value.string)) (d : Dm) (dk : DOk W d) (du : d.ul.length = d.un) (dr : d.rl.length = d.rn) (dc : d.kl.length = d.kn)
    (a3 : Option Addr) (n3 c3 : Nat) (l3 : List UInt8) (hn3 : l3.length = n3) (b3 : Bs W (.slice a3 n3 c3) l3) (Y : ByteArray) (hY : (Y.size ≤ 1600 ∧ Y = y) ∨ (¬ Y.size ≤ 1600 ∧ Y.extract 0 1600 = y)) :
    Calls Try.prog 4 #[.string Y, .slice a1 n1 c1, .agg #[.int .i64 d.c, .int .i64 d.s, .string d.v, .slice d.ua d.un d.uc, .slice d.ra d.rn d.rc, .bool d.hu, .bool d.hr, .slice d.ka d.kn d.kc], .slice a3 n3 c3] W fun e w' => e = .returned (.bool true) ∧ Below W.heap.size W w' := by
  obtain ⟨m3, x3, hm3, hx3, u3, hc3⟩ := cut6_in hn3 b3
  have HC3 := Lib.hid hc3
  have HX3 := Lib.hid hx3
  have HB1 : Hid (Below W.heap.size W (W.alloc (.cells #[.int .i64 d.c, .int .i64 d.s, .string d.v, .slice d.ua d.un d.uc, .slice d.ra d.rn d.rc, .bool d.hu, .bool d.hr, .slice d.ka d.kn d.kc] 36))) := (Below.refl _ _).alloc (Nat.le_refl _) _
  have HG1 : Hid ((W.alloc (.cells #[.int .i64 d.c, .int .i64 d.s, .string d.v, .slice d.ua d.un d.uc, .slice d.ra d.rn d.rc, .bool d.hu, .bool d.hr, .slice d.ka d.kn d.kc] 36)).heap[W.heap.size]? = some (.cells #[.int .i64 d.c, .int .i64 d.s, .string d.v, .slice d.ua d.un d.uc, .slice d.ra d.rn d.rc, .bool d.hu, .bool d.hr, .slice d.ka d.kn d.kc] 36 (0, 0))) := heap_alloc_last _ _
  have hsz1 : (W.alloc (.cells #[.int .i64 d.c, .int .i64 d.s, .string d.v, .slice d.ua d.un d.uc, .slice d.ra d.rn d.rc, .bool d.hu, .bool d.hr, .slice d.ka d.kn d.kc] 36)).heap.size = W.heap.size + 1 := World.size_alloc _ _
  have HSZ1 := Lib.hid hsz1
  have NM : Hid (∀ w', Below W.heap.size W w' → Calls Try.prog 16 #[.slice a1 n1 c1] w' fun e w'' => ∃ a' n' c' us, e = .returned (.slice a' n' c') ∧ StrR w'' a' n' c' us ∧ w''.ownsRow w'.heap.size 9 1 (.slice a' n' c') n' (us.map Value.string) ∧ Below w'.heap.size w' w'') := fun w' h => names_any a1 n1 c1 ss w' (b1.below h)
  have FW : Hid (∀ w', Calls Try.prog 17 #[.agg #[.int .i64 d.c, .int .i64 d.s, .string d.v, .slice d.ua d.un d.uc, .slice d.ra d.rn d.rc, .bool d.hu, .bool d.hr, .slice d.ka d.kn d.kc]] w' fun e w'' => ∃ d : Dm, e = .returned (.agg #[.int .i64 d.c, .int .i64 d.s, .string d.v, .slice d.ua d.un d.uc, .slice d.ra d.rn d.rc, .bool d.hu, .bool d.hr, .slice d.ka d.kn d.kc]) ∧ DOk W d ∧ DShort d ∧ Below w'.heap.size w' w'') := fun w' => few_any d W w' dk du dr dc
  have HU3 := Lib.hid u3
  have HY := Lib.hid hy
  have AW := Lib.hid awake_any
  obtain ⟨w1, hw1⟩ : ∃ x, x = W.alloc (.cells #[.int .i64 d.c, .int .i64 d.s, .string d.v, .slice d.ua d.un d.uc, .slice d.ra d.rn d.rc, .bool d.hu, .bool d.hr, .slice d.ka d.kn d.kc] 36) := ⟨_, rfl⟩
  rw [← hw1] at HB1 HG1 HSZ1
  have HW1 := Lib.hid hw1
  clear b1 dk du dr dc hn3 b3 u3 hc3 hx3 hsz1 hw1 hy
  rcases hY with ⟨hY1, hY2⟩ | ⟨hY1, hY2⟩
  · obtain rfl : y = Y := hY2.symm
    go_enter Try.func4, Try.ntmps4
    go_wp2_with fail
    rw [← HW1.out]
    clear HW1
    refine wp_region_G 6 Gr (by kernel_rfl) ?_
    -- 0: slot 18
    refine wpG_take preGr (i := 0) (v := ?_) (by kernel_rfl) (some 18) (by kernel_rfl) rfl (by kernel_rfl) (by kernel_rfl) (by kernel_rfl) (fun _ _ _ h => h) (by rfl) (fun w' hw' => ?_) rfl ?_
    rotate_left
    · try have g0 := (cells8 (heap_below HG1.out ((Gr.drew w1).trans hw'))).1
      try have g1 := (cells8 (heap_below HG1.out ((Gr.drew w1).trans hw'))).2.1
      try have g2 := (cells8 (heap_below HG1.out ((Gr.drew w1).trans hw'))).2.2.1
      try have g3 := (cells8 (heap_below HG1.out ((Gr.drew w1).trans hw'))).2.2.2.1
      try have g4 := (cells8 (heap_below HG1.out ((Gr.drew w1).trans hw'))).2.2.2.2.1
      try have g5 := (cells8 (heap_below HG1.out ((Gr.drew w1).trans hw'))).2.2.2.2.2.1
      try have g6 := (cells8 (heap_below HG1.out ((Gr.drew w1).trans hw'))).2.2.2.2.2.2.1
      try have g7 := (cells8 (heap_below HG1.out ((Gr.drew w1).trans hw'))).2.2.2.2.2.2.2
      go_simp
      with_reducible rfl
    simp only [Act.put, List.setIfInBounds_toArray, List.set_cons_zero, List.set_cons_succ]
    -- 2: slot 20
    refine wpG_take preGr (i := 2) (v := ?_) (by kernel_rfl) (some 20) (by kernel_rfl) rfl (by kernel_rfl) (by kernel_rfl) (by kernel_rfl) (fun _ _ _ h => h) (by rfl) (fun w' hw' => ?_) rfl ?_
    rotate_left
    · try have g0 := (cells8 (heap_below HG1.out ((Gr.drew w1).trans hw'))).1
      try have g1 := (cells8 (heap_below HG1.out ((Gr.drew w1).trans hw'))).2.1
      try have g2 := (cells8 (heap_below HG1.out ((Gr.drew w1).trans hw'))).2.2.1
      try have g3 := (cells8 (heap_below HG1.out ((Gr.drew w1).trans hw'))).2.2.2.1
      try have g4 := (cells8 (heap_below HG1.out ((Gr.drew w1).trans hw'))).2.2.2.2.1
      try have g5 := (cells8 (heap_below HG1.out ((Gr.drew w1).trans hw'))).2.2.2.2.2.1
      try have g6 := (cells8 (heap_below HG1.out ((Gr.drew w1).trans hw'))).2.2.2.2.2.2.1
      try have g7 := (cells8 (heap_below HG1.out ((Gr.drew w1).trans hw'))).2.2.2.2.2.2.2
      go_simp
      with_reducible rfl
    simp only [Act.put, List.setIfInBounds_toArray, List.set_cons_zero, List.set_cons_succ]
    -- 4: slot 22
    refine wpG_take preGr (i := 4) (v := ?_) (by kernel_rfl) (some 22) (by kernel_rfl) rfl (by kernel_rfl) (by kernel_rfl) (by kernel_rfl) (fun _ _ _ h => h) (by rfl) (fun w' hw' => ?_) rfl ?_
    rotate_left
    · try have g0 := (cells8 (heap_below HG1.out ((Gr.drew w1).trans hw'))).1
      try have g1 := (cells8 (heap_below HG1.out ((Gr.drew w1).trans hw'))).2.1
      try have g2 := (cells8 (heap_below HG1.out ((Gr.drew w1).trans hw'))).2.2.1
      try have g3 := (cells8 (heap_below HG1.out ((Gr.drew w1).trans hw'))).2.2.2.1
      try have g4 := (cells8 (heap_below HG1.out ((Gr.drew w1).trans hw'))).2.2.2.2.1
      try have g5 := (cells8 (heap_below HG1.out ((Gr.drew w1).trans hw'))).2.2.2.2.2.1
      try have g6 := (cells8 (heap_below HG1.out ((Gr.drew w1).trans hw'))).2.2.2.2.2.2.1
      try have g7 := (cells8 (heap_below HG1.out ((Gr.drew w1).trans hw'))).2.2.2.2.2.2.2
      go_simp
      with_reducible rfl
    simp only [Act.put, List.setIfInBounds_toArray, List.set_cons_zero, List.set_cons_succ]
    refine wpG_one (i := 1) rfl (by kernel_rfl) (by rfl) ?_
    go_simp
    refine (NM.out _ HB1.out.drew).mono ?_
    rintro e w2 ⟨a2, n2, c2, us, rfl, hst, how, hb2⟩
    refine ⟨hb2, ?_⟩
    have HG12 : Hid (Gr w1 w2) := (Gr.drew w1).trans hb2
    have HOW2 : Hid (w2.ownsRow (W.heap.size + 1) 9 1 (.slice a2 n2 c2) n2 (us.map Value.string)) := ownsRow_mono how (Nat.le_of_eq HSZ1.out.symm)
    have HST := Lib.hid hst
    clear hst how hb2
    try simp only [Act.put, List.setIfInBounds_toArray, List.set_cons_zero, List.set_cons_succ]
    refine wpG_one (i := 3) rfl (by kernel_rfl) (by rfl) ?_
    go_simp
    refine (FW.out _).mono ?_
    rintro e w3 ⟨d', rfl, hdk, hds, hb3⟩
    refine ⟨hb3, ?_⟩
    have HG13 : Hid (Gr w1 w3) := Below.trans HG12.out (Below.mono hb3 (Below.size HG12.out))
    have HOW3 := Lib.hid (ownsRow_below HOW2.out hb3)
    have HDK := Lib.hid hdk
    have HDS := Lib.hid hds
    clear hdk hds hb3
    try simp only [Act.put, List.setIfInBounds_toArray, List.set_cons_zero, List.set_cons_succ]
    refine wpG_one (i := 5) rfl (by kernel_rfl) (by rfl) ?_
    go_simp
    refine (HC3.out _).mono ?_
    rintro e w' ⟨rfl, rfl⟩
    refine ⟨Below.refl _ _, ?_⟩
    try simp only [Act.put, List.setIfInBounds_toArray, List.set_cons_zero, List.set_cons_succ]
    refine wpG_tail (i := 6) (by decide) rfl (by kernel_rfl) (by rfl) ?_
    go_simp
    try simp only [Act.put, List.setIfInBounds_toArray, List.set_cons_zero, List.set_cons_succ]
    refine wpG_tail (i := 7) (by decide) rfl (by kernel_rfl) (by rfl) ?_
    refine wp_store_whole (none) 36 (.tmp 6) (.tmp 21) rfl W.heap.size [.int .i64 d'.c, .int .i64 d'.s, .string d'.v, .slice d'.ua d'.un d'.uc, .slice d'.ra d'.rn d'.rc, .bool d'.hu, .bool d'.hr, .slice d'.ka d'.kn d'.kc] rfl rfl 36 [.int .i64 d.c, .int .i64 d.s, .string d.v, .slice d.ua d.un d.uc, .slice d.ra d.rn d.rc, .bool d.hu, .bool d.hr, .slice d.ka d.kn d.kc] (heap_below HG1.out HG13.out) (by kernel_rfl) rfl (one8 ⟨rfl, rfl, rfl, rfl, rfl, rfl, rfl, rfl⟩) rfl ?_
    intro w5 h5 ho5
    have H5 := Lib.hid h5
    have HB3 := Lib.hid (HB1.out.trans (Below.mono HG13.out HB1.out.size))
    have HB5 := Lib.hid (ho5.below _ _ (Nat.le_refl _) HB3.out)
    have HS5 : Hid (StrR w5 a2 n2 c2 us) := ⟨own_rd (ownsRow_only HOW3.out ho5 (Nat.lt_succ_self _)), HST.out.small, HST.out.few⟩
    clear h5 ho5
    try simp only [Act.put, List.setIfInBounds_toArray, List.set_cons_zero, List.set_cons_succ]
    refine wpG_tail (i := 8) (by decide) rfl (by kernel_rfl) (by rfl) ?_
    go_simp
    try simp only [Act.put, List.setIfInBounds_toArray, List.set_cons_zero, List.set_cons_succ]
    refine wpG_done (by kernel_rfl) ?_ _
    obtain ⟨k0, k1, k2, k3, k4, k5, k6, k7⟩ := cells8 H5.out
    obtain ⟨r, hr⟩ : ∃ r, r = offerP y us d'.plain x3 := ⟨_, rfl⟩
    have OF := offer_any y a2 n2 c2 us d' a3 m3 c3 x3 w5 HS5.out (HDK.out.below HB5.out) HDS.out (HU3.out.below HB5.out) (by have := HX3.out; omega) HY.out
    rw [← hr] at OF
    have HOF := Lib.hid OF
    have HRR := Lib.hid hr
    clear OF hr
    go_wp2_with fail
    refine HOF.out.mono ?_
    rintro e w6 ⟨A6, L6, C6, rfl, hown6, hb6⟩
    have hE6 : Below w6.heap.size w6 (w6.alloc (.cells #[.int .i64 r.1.c, .int .i64 r.1.s, .slice A6 L6 C6] 24)) := (Below.refl _ _).alloc (Nat.le_refl _) _
    have hB6 := hb6.trans (hE6.mono hb6.size)
    have HB6 := Lib.hid (HB5.out.trans (hB6.mono HB5.out.size))
    have HG6 : Hid ((w6.alloc (.cells #[.int .i64 r.1.c, .int .i64 r.1.s, .slice A6 L6 C6] 24)).heap[w6.heap.size]? = some (.cells #[.int .i64 r.1.c, .int .i64 r.1.s, .slice A6 L6 C6] 24 (0, 0))) := heap_alloc_last _ _
    have HQ6 := Lib.hid (hown6.bs.below hE6)
    have H6 := Lib.hid (heap_below H5.out hB6)
    have HS6 := Lib.hid (HS5.out.below hB6)
    have RO := roffer_any y a2 n2 c2 us d' a3 m3 c3 x3 _ HS6.out (HDK.out.below HB6.out) HDS.out (HU3.out.below HB6.out) (by have := HX3.out; omega) HY.out
    rw [← HRR.out] at RO
    have HRO := Lib.hid RO
    clear k0 k1 k2 k3 k4 k5 k6 k7 hown6 hb6 hE6 hB6 RO HOF
    obtain ⟨k0, k1, k2, k3, k4, k5, k6, k7⟩ := cells8 H6.out
    go_wp2_with fail
    refine HRO.out.mono ?_
    rintro e w7 ⟨A7, L7, C7, rfl, hown7, hb7⟩
    have hE7 : Below w7.heap.size w7 (w7.alloc (.cells #[.int .i64 r.1.c, .int .i64 r.1.s, .slice A7 L7 C7] 24)) := (Below.refl _ _).alloc (Nat.le_refl _) _
    have hB7 := hb7.trans (hE7.mono hb7.size)
    have HB7 := Lib.hid (HB6.out.trans (hB7.mono HB6.out.size))
    have HG7 := Lib.hid (heap_below HG6.out hB7)
    obtain ⟨q0, q1, q2⟩ := cells3 HG7.out
    have hq6 := HQ6.out.below hB7
    have hq7 := hown7.bs.below hE7
    obtain rfl : L7 = L6 := by
      obtain ⟨_, _, _, e1, h1, _, _⟩ := hq6.sl
      obtain ⟨_, _, _, e2, h2, _, _⟩ := hq7.sl
      simp only [Value.slice.injEq] at e1 e2
      rw [e1.2.1, e2.2.1, ← h1, ← h2]
    have SM := Lib.hid (psame_true r.1.c r.1.s A6 A7 L7 C6 C7 _ _ hq6 hq7)
    clear hown7 hb7 hE7 hB7 hq6 hq7 HRO k0 k1 k2 k3 k4 k5 k6 k7
    go_wp2_with fail
    refine SM.out.mono ?_
    rintro e w8 ⟨rfl, hb8⟩
    have HB8 := Lib.hid (HB7.out.trans (hb8.mono HB7.out.size))
    clear hb8 SM q0 q1 q2
    go_wp2_with fail
    refine (AW.out w8).mono ?_
    rintro e w9 ⟨rfl, hb9⟩
    have HB9 := Lib.hid (HB8.out.trans (hb9.mono HB8.out.size))
    clear hb9
    go_wp2
    go_ret
    exact ⟨by simp, HB9.out⟩
  · go_enter Try.func4, Try.ntmps4
    go_wp2_with fail
    rw [← HW1.out]
    clear HW1
    refine wp_region_G 6 Gr (by kernel_rfl) ?_
    -- 0: slot 18
    refine wpG_take preGr (i := 0) (v := ?_) (by kernel_rfl) (some 18) (by kernel_rfl) rfl (by kernel_rfl) (by kernel_rfl) (by kernel_rfl) (fun _ _ _ h => h) (by rfl) (fun w' hw' => ?_) rfl ?_
    rotate_left
    · try have g0 := (cells8 (heap_below HG1.out ((Gr.drew w1).trans hw'))).1
      try have g1 := (cells8 (heap_below HG1.out ((Gr.drew w1).trans hw'))).2.1
      try have g2 := (cells8 (heap_below HG1.out ((Gr.drew w1).trans hw'))).2.2.1
      try have g3 := (cells8 (heap_below HG1.out ((Gr.drew w1).trans hw'))).2.2.2.1
      try have g4 := (cells8 (heap_below HG1.out ((Gr.drew w1).trans hw'))).2.2.2.2.1
      try have g5 := (cells8 (heap_below HG1.out ((Gr.drew w1).trans hw'))).2.2.2.2.2.1
      try have g6 := (cells8 (heap_below HG1.out ((Gr.drew w1).trans hw'))).2.2.2.2.2.2.1
      try have g7 := (cells8 (heap_below HG1.out ((Gr.drew w1).trans hw'))).2.2.2.2.2.2.2
      go_simp
      with_reducible rfl
    simp only [Act.put, List.setIfInBounds_toArray, List.set_cons_zero, List.set_cons_succ]
    -- 2: slot 20
    refine wpG_take preGr (i := 2) (v := ?_) (by kernel_rfl) (some 20) (by kernel_rfl) rfl (by kernel_rfl) (by kernel_rfl) (by kernel_rfl) (fun _ _ _ h => h) (by rfl) (fun w' hw' => ?_) rfl ?_
    rotate_left
    · try have g0 := (cells8 (heap_below HG1.out ((Gr.drew w1).trans hw'))).1
      try have g1 := (cells8 (heap_below HG1.out ((Gr.drew w1).trans hw'))).2.1
      try have g2 := (cells8 (heap_below HG1.out ((Gr.drew w1).trans hw'))).2.2.1
      try have g3 := (cells8 (heap_below HG1.out ((Gr.drew w1).trans hw'))).2.2.2.1
      try have g4 := (cells8 (heap_below HG1.out ((Gr.drew w1).trans hw'))).2.2.2.2.1
      try have g5 := (cells8 (heap_below HG1.out ((Gr.drew w1).trans hw'))).2.2.2.2.2.1
      try have g6 := (cells8 (heap_below HG1.out ((Gr.drew w1).trans hw'))).2.2.2.2.2.2.1
      try have g7 := (cells8 (heap_below HG1.out ((Gr.drew w1).trans hw'))).2.2.2.2.2.2.2
      go_simp
      with_reducible rfl
    simp only [Act.put, List.setIfInBounds_toArray, List.set_cons_zero, List.set_cons_succ]
    -- 4: slot 22
    refine wpG_take preGr (i := 4) (v := ?_) (by kernel_rfl) (some 22) (by kernel_rfl) rfl (by kernel_rfl) (by kernel_rfl) (by kernel_rfl) (fun _ _ _ h => h) (by rfl) (fun w' hw' => ?_) rfl ?_
    rotate_left
    · try have g0 := (cells8 (heap_below HG1.out ((Gr.drew w1).trans hw'))).1
      try have g1 := (cells8 (heap_below HG1.out ((Gr.drew w1).trans hw'))).2.1
      try have g2 := (cells8 (heap_below HG1.out ((Gr.drew w1).trans hw'))).2.2.1
      try have g3 := (cells8 (heap_below HG1.out ((Gr.drew w1).trans hw'))).2.2.2.1
      try have g4 := (cells8 (heap_below HG1.out ((Gr.drew w1).trans hw'))).2.2.2.2.1
      try have g5 := (cells8 (heap_below HG1.out ((Gr.drew w1).trans hw'))).2.2.2.2.2.1
      try have g6 := (cells8 (heap_below HG1.out ((Gr.drew w1).trans hw'))).2.2.2.2.2.2.1
      try have g7 := (cells8 (heap_below HG1.out ((Gr.drew w1).trans hw'))).2.2.2.2.2.2.2
      go_simp
      with_reducible rfl
    simp only [Act.put, List.setIfInBounds_toArray, List.set_cons_zero, List.set_cons_succ]
    refine wpG_one (i := 1) rfl (by kernel_rfl) (by rfl) ?_
    go_simp
    refine (NM.out _ HB1.out.drew).mono ?_
    rintro e w2 ⟨a2, n2, c2, us, rfl, hst, how, hb2⟩
    refine ⟨hb2, ?_⟩
    have HG12 : Hid (Gr w1 w2) := (Gr.drew w1).trans hb2
    have HOW2 : Hid (w2.ownsRow (W.heap.size + 1) 9 1 (.slice a2 n2 c2) n2 (us.map Value.string)) := ownsRow_mono how (Nat.le_of_eq HSZ1.out.symm)
    have HST := Lib.hid hst
    clear hst how hb2
    try simp only [Act.put, List.setIfInBounds_toArray, List.set_cons_zero, List.set_cons_succ]
    refine wpG_one (i := 3) rfl (by kernel_rfl) (by rfl) ?_
    go_simp
    refine (FW.out _).mono ?_
    rintro e w3 ⟨d', rfl, hdk, hds, hb3⟩
    refine ⟨hb3, ?_⟩
    have HG13 : Hid (Gr w1 w3) := Below.trans HG12.out (Below.mono hb3 (Below.size HG12.out))
    have HOW3 := Lib.hid (ownsRow_below HOW2.out hb3)
    have HDK := Lib.hid hdk
    have HDS := Lib.hid hds
    clear hdk hds hb3
    try simp only [Act.put, List.setIfInBounds_toArray, List.set_cons_zero, List.set_cons_succ]
    refine wpG_one (i := 5) rfl (by kernel_rfl) (by rfl) ?_
    go_simp
    refine (HC3.out _).mono ?_
    rintro e w' ⟨rfl, rfl⟩
    refine ⟨Below.refl _ _, ?_⟩
    try simp only [Act.put, List.setIfInBounds_toArray, List.set_cons_zero, List.set_cons_succ]
    refine wpG_tail (i := 6) (by decide) rfl (by kernel_rfl) (by rfl) ?_
    go_simp
    try simp only [Act.put, List.setIfInBounds_toArray, List.set_cons_zero, List.set_cons_succ]
    refine wpG_tail (i := 7) (by decide) rfl (by kernel_rfl) (by rfl) ?_
    refine wp_store_whole (none) 36 (.tmp 6) (.tmp 21) rfl W.heap.size [.int .i64 d'.c, .int .i64 d'.s, .string d'.v, .slice d'.ua d'.un d'.uc, .slice d'.ra d'.rn d'.rc, .bool d'.hu, .bool d'.hr, .slice d'.ka d'.kn d'.kc] rfl rfl 36 [.int .i64 d.c, .int .i64 d.s, .string d.v, .slice d.ua d.un d.uc, .slice d.ra d.rn d.rc, .bool d.hu, .bool d.hr, .slice d.ka d.kn d.kc] (heap_below HG1.out HG13.out) (by kernel_rfl) rfl (one8 ⟨rfl, rfl, rfl, rfl, rfl, rfl, rfl, rfl⟩) rfl ?_
    intro w5 h5 ho5
    have H5 := Lib.hid h5
    have HB3 := Lib.hid (HB1.out.trans (Below.mono HG13.out HB1.out.size))
    have HB5 := Lib.hid (ho5.below _ _ (Nat.le_refl _) HB3.out)
    have HS5 : Hid (StrR w5 a2 n2 c2 us) := ⟨own_rd (ownsRow_only HOW3.out ho5 (Nat.lt_succ_self _)), HST.out.small, HST.out.few⟩
    clear h5 ho5
    try simp only [Act.put, List.setIfInBounds_toArray, List.set_cons_zero, List.set_cons_succ]
    refine wpG_tail (i := 8) (by decide) rfl (by kernel_rfl) (by rfl) ?_
    go_simp
    try simp only [Act.put, List.setIfInBounds_toArray, List.set_cons_zero, List.set_cons_succ]
    refine wpG_done (by kernel_rfl) ?_ _
    obtain ⟨k0, k1, k2, k3, k4, k5, k6, k7⟩ := cells8 H5.out
    obtain ⟨r, hr⟩ : ∃ r, r = offerP y us d'.plain x3 := ⟨_, rfl⟩
    have OF := offer_any y a2 n2 c2 us d' a3 m3 c3 x3 w5 HS5.out (HDK.out.below HB5.out) HDS.out (HU3.out.below HB5.out) (by have := HX3.out; omega) HY.out
    rw [← hr] at OF
    have HOF := Lib.hid OF
    have HRR := Lib.hid hr
    clear OF hr
    go_wp2_with fail
    refine HOF.out.mono ?_
    rintro e w6 ⟨A6, L6, C6, rfl, hown6, hb6⟩
    have hE6 : Below w6.heap.size w6 (w6.alloc (.cells #[.int .i64 r.1.c, .int .i64 r.1.s, .slice A6 L6 C6] 24)) := (Below.refl _ _).alloc (Nat.le_refl _) _
    have hB6 := hb6.trans (hE6.mono hb6.size)
    have HB6 := Lib.hid (HB5.out.trans (hB6.mono HB5.out.size))
    have HG6 : Hid ((w6.alloc (.cells #[.int .i64 r.1.c, .int .i64 r.1.s, .slice A6 L6 C6] 24)).heap[w6.heap.size]? = some (.cells #[.int .i64 r.1.c, .int .i64 r.1.s, .slice A6 L6 C6] 24 (0, 0))) := heap_alloc_last _ _
    have HQ6 := Lib.hid (hown6.bs.below hE6)
    have H6 := Lib.hid (heap_below H5.out hB6)
    have HS6 := Lib.hid (HS5.out.below hB6)
    have RO := roffer_any y a2 n2 c2 us d' a3 m3 c3 x3 _ HS6.out (HDK.out.below HB6.out) HDS.out (HU3.out.below HB6.out) (by have := HX3.out; omega) HY.out
    rw [← HRR.out] at RO
    have HRO := Lib.hid RO
    clear k0 k1 k2 k3 k4 k5 k6 k7 hown6 hb6 hE6 hB6 RO HOF
    obtain ⟨k0, k1, k2, k3, k4, k5, k6, k7⟩ := cells8 H6.out
    go_wp2_with fail
    refine HRO.out.mono ?_
    rintro e w7 ⟨A7, L7, C7, rfl, hown7, hb7⟩
    have hE7 : Below w7.heap.size w7 (w7.alloc (.cells #[.int .i64 r.1.c, .int .i64 r.1.s, .slice A7 L7 C7] 24)) := (Below.refl _ _).alloc (Nat.le_refl _) _
    have hB7 := hb7.trans (hE7.mono hb7.size)
    have HB7 := Lib.hid (HB6.out.trans (hB7.mono HB6.out.size))
    have HG7 := Lib.hid (heap_below HG6.out hB7)
    obtain ⟨q0, q1, q2⟩ := cells3 HG7.out
    have hq6 := HQ6.out.below hB7
    have hq7 := hown7.bs.below hE7
    obtain rfl : L7 = L6 := by
      obtain ⟨_, _, _, e1, h1, _, _⟩ := hq6.sl
      obtain ⟨_, _, _, e2, h2, _, _⟩ := hq7.sl
      simp only [Value.slice.injEq] at e1 e2
      rw [e1.2.1, e2.2.1, ← h1, ← h2]
    have SM := Lib.hid (psame_true r.1.c r.1.s A6 A7 L7 C6 C7 _ _ hq6 hq7)
    clear hown7 hb7 hE7 hB7 hq6 hq7 HRO k0 k1 k2 k3 k4 k5 k6 k7
    go_wp2_with fail
    refine SM.out.mono ?_
    rintro e w8 ⟨rfl, hb8⟩
    have HB8 := Lib.hid (HB7.out.trans (hb8.mono HB7.out.size))
    clear hb8 SM q0 q1 q2
    go_wp2_with fail
    refine (AW.out w8).mono ?_
    rintro e w9 ⟨rfl, hb9⟩
    have HB9 := Lib.hid (HB8.out.trans (hb9.mono HB8.out.size))
    clear hb9
    go_wp2
    go_ret
    exact ⟨by simp, HB9.out⟩
theorem walk (W : World) (Y : ByteArray) (hs : Y.size ≤ maxLen) (a1 : Option Addr) (n1 c1 : Nat) (ss : List ByteArray) (b1 : Rd W 1 (.slice a1 n1 c1) n1 (ss.map Value.string)) (d : Dm) (dk : DOk W d) (du : d.ul.length = d.un) (dr : d.rl.length = d.rn) (dc : d.kl.length = d.kn) (dv : d.v.size ≤ maxLen)
    (a3 : Option Addr) (n3 c3 : Nat) (l3 : List UInt8) (hn3 : l3.length = n3) (b3 : Bs W (.slice a3 n3 c3) l3) :
    Calls Try.prog 4 #[.string Y, .slice a1 n1 c1, .agg #[.int .i64 d.c, .int .i64 d.s, .string d.v, .slice d.ua d.un d.uc, .slice d.ra d.rn d.rc, .bool d.hu, .bool d.hr, .slice d.ka d.kn d.kc], .slice a3 n3 c3] W fun e w' => e = .returned (.bool true) ∧ Below W.heap.size W w' := by
  by_cases h : Y.size ≤ 1600
  · exact rest W Y h a1 n1 c1 ss b1 d dk du dr dc a3 n3 c3 l3 hn3 b3 Y (.inl ⟨h, rfl⟩)
  · exact rest W (Y.extract 0 1600) (by rw [ByteArray.size_extract]; omega) a1 n1 c1 ss b1 d dk du dr dc a3 n3 c3 l3 hn3 b3 Y (.inr ⟨h, rfl⟩)

theorem own : ownKnob Try.prog.godebug = none := by kernel_rfl
theorem laidOut : laidOutB Try.prog = true := by kernel_rfl
set_option maxRecDepth 100000 in
theorem lifted (os : Os) (started : os.Started) (H : Type) (enc : TypeId × Value → H) :
    ReturnsInHanded {} Try.checked os 4 .any (Rows.pppoeOffersSpec.pre6 enc Try.prog Try.f4 Rows.pppoeOffersRow.domain false) (Rows.pppoeOffersSpec.post enc Try.prog Try.f4 false true false false) := by
  refine returnsInHanded_of_change (C := Try.checked) own started (by kernel_rfl) Try.func4
    (ChangeSpec.witness6 (enc := enc) (C := Try.checked) false ⟨#[], #[.string ⟨#[]⟩, .slice none 0 0, .agg #[.int .i64 0, .int .i64 0, .string ⟨#[]⟩, .slice none 0 0, .slice none 0 0, .bool false, .bool false, .slice none 0 0], .slice none 0 0], []⟩ 8 (by kernel_rfl) (by kernel_rfl) (by kernel_rfl) (by kernel_rfl)) ?_
  intro W base args ds gs before hval0 hW hcnd _
  have hval : ∀ (j : Nat) t v, Try.f4.params[j]? = some t → args[j]? = some v → Value.okWide Try.prog W .any base t v := hval0
  have hW' := hW
  obtain ⟨p, q, hA0, hV, rfl, hfz, hnd⟩ := hW
  have hA : DataW.TrodAll enc Try.prog W 0 (fun _ => true) true Try.f4.params.toList args.toList ds p := hA0
  rw [Try.params4] at hA hval
  obtain ⟨v0, vs0, d0, ds0, p0, q0, hargs, rfl, rfl, h0, r0⟩ := trodAll_cons hA
  obtain ⟨v1, vs1, d1, ds1, p1, q1, rfl, rfl, rfl, h1, r1⟩ := trodAll_cons r0
  obtain ⟨v2, vs2, d2, ds2, p2, q2, rfl, rfl, rfl, h2, r2⟩ := trodAll_cons r1
  obtain ⟨v3, vs3, d3, ds3, p3, q3, rfl, rfl, rfl, h3, r3⟩ := trodAll_cons r2
  obtain ⟨rfl, rfl, rfl⟩ := trodAll_nil r3
  obtain rfl : args = #[v0, v1, v2, v3] := by cases args; simp_all
  obtain ⟨rfl, rfl⟩ := trodVars_none hV
  have k0 := h0
  have lt0 : ∀ x ∈ p0, x.block < W.heap.size := by obtain ⟨m, hm⟩ := k0; exact DataW.trod_lt m _ _ _ hm
  obtain ⟨s0, rfl, rfl, rfl, hs0⟩ := open_string Try.underlying9 (hval 0 9 v0 rfl rfl) h0
  have k1 := h1
  have lt1 : ∀ x ∈ p1, x.block < W.heap.size := by obtain ⟨m, hm⟩ := k1; exact DataW.trod_lt m _ _ _ hm
  obtain ⟨a1, n1, c1, ss1, rfl, b1⟩ := open_texts Try.underlying34 Try.underlying9 (by kernel_rfl) (hval 1 34 v1 rfl rfl) h1
  have k2 := h2
  have lt2 : ∀ x ∈ p2, x.block < W.heap.size := by obtain ⟨m, hm⟩ := k2; exact DataW.trod_lt m _ _ _ hm
  obtain ⟨d2, rfl, dk2, du2, dr2, dc2, dv2⟩ := open_disc Try.underlying36 ⟨rfl, rfl, rfl, rfl, rfl, rfl, rfl, rfl⟩ Try.underlying3 Try.underlying3 Try.underlying9 Try.underlying22 Try.underlying22 Try.underlying4 Try.underlying4 Try.underlying22 Try.underlying5 ⟨by kernel_rfl, by kernel_rfl, by kernel_rfl, by kernel_rfl, by kernel_rfl, by kernel_rfl, by kernel_rfl, by kernel_rfl, by kernel_rfl, by kernel_rfl⟩ (hval 2 36 v2 rfl rfl) h2
  have k3 := h3
  have lt3 : ∀ x ∈ p3, x.block < W.heap.size := by obtain ⟨m, hm⟩ := k3; exact DataW.trod_lt m _ _ _ hm
  obtain ⟨a3, n3, c3, l3, rfl, hn3, b3⟩ := open_bytes Try.underlying22 Try.underlying5 (by kernel_rfl) (hval 3 22 v3 rfl rfl) h3
  clear hA0 hval0
  refine (walk W s0 hs0 a1 n1 c1 ss1 b1 d2 dk2 du2 dr2 dc2 dv2 a3 n3 c3 l3 hn3 b3).mono fun e W' ⟨he, bel⟩ => ?_
  subst he
  exact ⟨_, rfl, _, _, _, [], _, [], hW', trodAll_mk1 (shut_bool Try.underlying4 _), (trodAll_cons_mk (Below.trod laidOut (by kernel_rfl) (of_decide_eq_true (by kernel_rfl)) k0 bel lt0) (trodAll_cons_mk (Below.trod laidOut (by kernel_rfl) (of_decide_eq_true (by kernel_rfl)) k1 bel lt1) (trodAll_cons_mk (Below.trod laidOut (by kernel_rfl) (of_decide_eq_true (by kernel_rfl)) k2 bel lt2) (trodAll_cons_mk (Below.trod laidOut (by kernel_rfl) (of_decide_eq_true (by kernel_rfl)) k3 bel lt3) trodAll_mk0)))), rfl, bel.frame _, fun h => by cases h⟩
theorem over : Rows.pppoeOffersRow.holds Try.pinned (OpenSpec.ofChange Rows.pppoeOffersSpec) :=
  OpenClaim.holds_of_wide 4 Try.f4 rfl rfl rfl rfl rfl rfl rfl ⟨rfl, rfl, rfl, rfl, rfl⟩ rfl rfl rfl rfl rfl (by kernel_rfl) Try.func4 (by kernel_rfl)
    (of_decide_eq_true (by kernel_rfl)) (by unfold Func.isWrapper; first | (rw [if_pos (by decide +kernel)]; kernel_rfl) | (rw [if_neg (by decide +kernel)]; exact ⟨rfl, rfl⟩))
    (fun os started H enc _ => lifted os started H enc)
/-- The statement. -/
theorem proved : Rows.PppoeOffersSaid := over
end Go.Proofs.Ytcpeglljcipcbaa.pppoeOffers
