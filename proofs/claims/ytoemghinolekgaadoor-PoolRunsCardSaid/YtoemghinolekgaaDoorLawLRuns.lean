/-
  Whatever is asked of a pool of any range, the pool answers as the document's does, and its parts are the document's (conciergelaw12.PoolRuns answers true). Condition: the library's table math/bits.deBruijn64tab starts as the program's text lays it (the tied card).
-/
import Derived.Test.YtoemghinolekgaaDoorPlJ
import Derived.Test.YtoemghinolekgaaDoorPlL
import Derived.Test.YtoemghinolekgaaDoorPlV
import Derived.Test.YtoemghinolekgaaDoorOpenR
namespace Go.Proofs.YtoemghinolekgaaDoor.poolRuns
open Go.ChangeShapes Go.WideShapes Go.ChangeAt Go.RowKit
open Go.Proofs.YtoemghinolekgaaDoor.Pl
open Go.Proofs.YtoemghinolekgaaDoor.Id (IR Tr)
set_option linter.unusedVariables false
set_option linter.unusedSimpArgs false

theorem wf_in {x : Int} (h : (Lit.int .i64 x).wf = true) : -9223372036854775808 ≤ x ∧ x ≤ 9223372036854775807 := by
  simpa [Lit.wf, IntKind.min, IntKind.max, IntKind.signed, IntKind.bits] using h
theorem atN {b z2 : Int} {l : List Int} (h : okR b z2 l) : ∃ Z : Nat, (Z : Int) = z2 := ⟨z2.toNat, by have := h.size; omega⟩
set_option maxRecDepth 20000 in
set_option maxHeartbeats 8000000 in
theorem walk (W : World) (hl : Laid W) (b z : Int) (a : Option Addr) (n c : Nat) (l : List Int) (wb : (Lit.int .i64 b).wf = true) (wz : (Lit.int .i64 z).wf = true) (hn : l.length = n) (hr : Rd W 1 (.slice a n c) n (l.map (Value.int .i64)))
    (a1 : Option Addr) (n1 c1 : Nat) (qs : List Pq) (hqs : PqR W (.slice a1 n1 c1) n1 qs) :
    Calls Tryd.prog 3 #[.agg #[.int .i64 b, .int .i64 z, .slice a n c], .slice a1 n1 c1] W fun e w' => e = .returned (.bool true) ∧ Below W.heap.size W w' := by
  have hb := wf_in wb
  have hz := wf_in wz
  have HB1 : Hid (Below W.heap.size W (W.alloc (.cells #[.int .i64 b, .int .i64 z, .slice a n c] 24))) := (Below.refl _ _).alloc (Nat.le_refl _) _
  have HP1 : Hid ((W.alloc (.cells #[.int .i64 b, .int .i64 z, .slice a n c] 24)).heap[W.heap.size]? = some (.cells #[.int .i64 b, .int .i64 z, .slice a n c] 24 (0, 0))) := heap_alloc_last _ _
  have HIR : Hid (IR W (.slice a n c) l) := by show Rd _ _ _ _ _; rw [hn]; exact hr
  have HS := Lib.hid (small_any b z (W.alloc (.cells #[.int .i64 b, .int .i64 z, .slice a n c] 24)) (Rd.below HIR.out HB1.out))
  have hzs : -9223372036854775808 ≤ smallZ z ∧ smallZ z ≤ 9223372036854775807 := by unfold smallZ; split <;> omega
  have HSZ : Hid (smallZ z ≤ 65536 → smallZ z ≤ 60) := by show _ → _; unfold smallZ; split <;> omega
  obtain ⟨z2, hz2⟩ : ∃ q, q = smallZ z := ⟨_, rfl⟩
  rw [← hz2] at HS hzs HSZ
  obtain ⟨l2, hl2⟩ : ∃ q, q = l.take 70 := ⟨_, rfl⟩
  rw [← hl2] at HS
  have HLW := Lib.hid hl
  have HBZ : Hid ((-9223372036854775808 ≤ b ∧ b ≤ 9223372036854775807) ∧ -9223372036854775808 ≤ z2 ∧ z2 ≤ 9223372036854775807) := ⟨hb, hzs⟩
  clear wb wz hn hr hl hb hz hz2 hzs hl2
  have HQS := Lib.hid hqs
  have HN1 : Hid (n1 = qs.length) := hqs.len.symm
  have hn163 : (n1 : Int) ≤ 9223372036854775807 := by
    obtain ⟨_, _, e, h1, h2⟩ := hqs.rd.shape
    simp only [Value.slice.injEq] at e
    obtain ⟨_, q, rfl⟩ := e
    unfold maxLen at h2
    omega
  obtain ⟨i0, hi, hz0, hz1, hz2⟩ := info_parts infoI
  clear hqs
  go_enter Tryd.func3, Tryd.ntmps3
  go_wp2_with fail
  refine HS.out.mono ?_
  rintro e w1 ⟨a2, n2, c2, rfl, hn2, hrow, hb1⟩
  have HP := Lib.hid (heap_gr hb1 HP1.out)
  have HB := Lib.hid (HB1.out.trans (Below.mono hb1 HB1.out.size))
  have HI0 := Lib.hid (hrow _ HIR.out)
  have HN2 := Lib.hid hn2
  clear hrow hb1 HS HP1 HB1 hn2
  go_wp2_with (with_reducible refine wpList_store_range rfl _ _ rfl W.heap.size _ _ _ _ _ rfl rfl _ _ _ HP.out ?_)
  intro U h2 ho2
  have HPU := Lib.hid h2
  have HBU := Lib.hid (ho2.below W.heap.size W (Nat.le_refl _) HB.out)
  have HIU : Hid (IR U (.slice a2 n2 c2) l2) := Rd.below HI0.out HBU.out
  have HLU := Lib.hid (HLW.out.gr HBU.out)
  have HSU : Hid (W.heap.size < U.heap.size) := (Array.getElem?_eq_some_iff.1 HPU.out).1
  clear h2 ho2 HP HB HI0
  obtain ⟨k0, k1, k2⟩ := cells3' HPU.out
  have HPU3 : Hid (∀ w, Gr U w → w.heap[W.heap.size]? = some (.cells #[.int .i64 b, .int .i64 z2, .slice a2 n2 c2] 24 (0, 0))) := fun w h => heap_gr h HPU.out
  cases hok : okB b z2 l2 with
  | false =>
    have HN1' := Lib.hid (new_no b z2 HBZ.out.1 HBZ.out.2 U HIU.out hok)
    have HIS : Hid (∀ w, Gr U w → Calls Tryd.prog 11 #[.agg #[.int .i64 b, .int .i64 z2, .slice a2 n2 c2]] w fun e w' => e = .returned (.bool false) ∧ Below w.heap.size w w') := fun w h => by
      have := is_any b z2 HBZ.out.1 HBZ.out.2 w (Rd.below HIU.out h)
      rw [hok] at this
      exact this
    have HCK : Hid (∀ w, Gr U w → Calls Tryd.prog 12 #[.agg #[.int .i64 b, .int .i64 z2, .slice a2 n2 c2]] w fun e w' => e = .returned (.int .i64 120) ∧ Below w.heap.size w w') := fun w h => by
      have := check_any b z2 HBZ.out.1 HBZ.out.2 w (Rd.below HIU.out h)
      rw [hok] at this
      exact this
    clear hok
    go_wp2_with fail
    refine HN1'.out.mono ?_
    rintro e w3 ⟨rfl, hb3⟩
    have HG3 : Hid (Gr U w3) := hb3
    obtain ⟨k0, k1, k2⟩ := cells3' (HPU3.out w3 hb3)
    clear hb3 HN1'
    go_wp2_with fail
    refine (HIS.out w3 HG3.out).mono ?_
    rintro e w4 ⟨rfl, hb4⟩
    have HG4 : Hid (Gr U w4) := HG3.out.trans hb4
    obtain ⟨k0, k1, k2⟩ := cells3' (HPU3.out w4 HG4.out)
    clear hb4 HG3
    go_wp2_with fail
    refine (HCK.out w4 HG4.out).mono ?_
    rintro e w5 ⟨rfl, hb5⟩
    have HG5 : Hid (Gr U w5) := HG4.out.trans hb5
    have HA := Lib.hid (awake_any w5 (HLU.out.gr HG5.out))
    clear hb5 HG4 k0 k1 k2
    go_wp2_with fail
    refine HA.out.mono ?_
    rintro e w6 ⟨rfl, hb6⟩
    have HB6 : Hid (Below W.heap.size W w6) := HBU.out.trans (Below.mono (HG5.out.trans hb6) HBU.out.size)
    clear hb6 HA
    go_wp2
    go_ret
    exact ⟨rfl, HB6.out⟩
  | true =>
    have hR := okB_iff.1 hok
    obtain ⟨Z, hZ⟩ := atN hR
    subst hZ
    have HRR := Lib.hid hR
    have HN1' := Lib.hid (new_lp U b Z U (Below.refl _ _) HLU.out HIU.out hR)
    have HIS : Hid (∀ w, Gr U w → Calls Tryd.prog 11 #[.agg #[.int .i64 b, .int .i64 (Z : Int), .slice a2 n2 c2]] w fun e w' => e = .returned (.bool true) ∧ Below w.heap.size w w') := fun w h => by
      have := is_any b (Z : Int) HBZ.out.1 HBZ.out.2 w (Rd.below HIU.out h)
      rw [hok] at this
      exact this
    have HCK : Hid (∀ w, Gr U w → Calls Tryd.prog 12 #[.agg #[.int .i64 b, .int .i64 (Z : Int), .slice a2 n2 c2]] w fun e w' => e = .returned (.int .i64 0) ∧ Below w.heap.size w w') := fun w h => by
      have := check_any b (Z : Int) HBZ.out.1 HBZ.out.2 w (Rd.below HIU.out h)
      rw [hok] at this
      exact this
    have HBR := Lib.hid hR.base
    clear hok hR
    go_wp2_with fail
    refine HN1'.out.mono ?_
    rintro e w3 ⟨g, rfl, m, hp3, _, hb3⟩
    have HP3 := Lib.hid hp3
    have HG3 : Hid (Gr U w3) := hb3
    obtain ⟨k0, k1, k2⟩ := cells3' (HPU3.out w3 hb3)
    clear hb3 HN1' hp3
    go_wp2_with fail
    refine (HIS.out w3 HG3.out).mono ?_
    rintro e w4 ⟨rfl, hb4⟩
    have HG4 : Hid (Gr U w4) := HG3.out.trans hb4
    have HP4 := Lib.hid (HP3.out.gr hb4)
    obtain ⟨k0, k1, k2⟩ := cells3' (HPU3.out w4 HG4.out)
    clear hb4 HG3 HP3
    go_wp2_with fail
    refine (HCK.out w4 HG4.out).mono ?_
    rintro e w5 ⟨rfl, hb5⟩
    have HG5 : Hid (Gr U w5) := HG4.out.trans hb5
    have HP5 := Lib.hid (HP4.out.gr hb5)
    have HA := Lib.hid (awake_any w5 (HLU.out.gr HG5.out))
    clear hb5 HG4 HP4 k0 k1 k2
    go_wp2_with fail
    refine HA.out.mono ?_
    rintro e w6 ⟨rfl, hb6⟩
    have HG6 : Hid (Gr U w6) := HG5.out.trans hb6
    have HP6 := Lib.hid (HP5.out.gr hb6)
    obtain ⟨k0, k1, k2⟩ := cells3' (HPU3.out w6 HG6.out)
    clear hb6 HG5 HP5 HA HIS HCK
    have HZZ : Hid ((w6.alloc (.cells #[.int .i64 0, .int .i64 0, .slice none 0 0, .slice none 0 0] 35)).heap[w6.heap.size]? = some (.cells #[.int .i64 0, .int .i64 0, .slice none 0 0, .slice none 0 0] 35 (0, 0))) := heap_alloc_last _ _
    go_wp2_with (with_reducible refine wpList_store_doc rfl _ _ rfl w6.heap.size _ _ _ _ _ _ _ _ rfl rfl HZZ.out ?_)
    intro w7 h7 ho7
    obtain ⟨gw, hgw⟩ : ∃ x, x = w6.heap.size := ⟨_, rfl⟩
    have hus := HG6.out.size
    have hb7 : Below w6.heap.size w6 w7 := ho7.below w6.heap.size w6 (Nat.le_refl _) ((Below.refl _ _).alloc (Nat.le_refl _) _)
    rw [← hgw] at h7
    have HP7 := Lib.hid (HP6.out.gr hb7)
    have HD7 : Hid (Ds U gw b Z (.slice a2 n2 c2) [] none 0 0 w7) := ⟨h7, World.ownsRow_nil _ _ _ _, rfl, by omega, by have := HSU.out; omega⟩
    rw [← hgw]
    clear h7 ho7 hus hb7 HZZ HP6 k0 k1 k2 hgw HG6
    go_wp2_with fail
    go_loopw [5, 9] (fun pv iv wr => ∃ (i g : Nat) (m : Pm) (S : Po) (al : Option Addr) (nl cl : Nat), i ≤ 60 ∧ iv = .int .i64 (i : Int) ∧ pv = .pointer (some ⟨g, 0, none⟩) ∧ Hid (LP U g m wr S) ∧ Hid (Ds U gw b Z (.slice a2 n2 c2) S.L al nl cl wr) ∧ Hid (Pl.Rng S b Z l2)) (fun _ iv _ => 60 - (intOf iv).toNat)
    case atStart => exact ⟨0, g, m, _, none, 0, 0, Nat.zero_le _, rfl, rfl, HP7, HD7, ⟨rfl, rfl, rfl⟩⟩
    case round =>
      clear HP7 HD7
      obtain ⟨i, g, m, S, al, nl, cl, hin, rfl, rfl, HP, HDS, HRG⟩ := hrel
      by_cases hlt : i < n1 ∧ i < 60
      · obtain ⟨hlt1, hlt2⟩ := hlt
        have hle : i + 1 ≤ 60 := by omega
        have hil : i < qs.length := by rw [← HN1.out]; exact hlt1
        obtain ⟨bb, o, ea, _, hcel⟩ := PqR.cells HQS.out (by omega)
        subst ea
        have HBW : Hid (Below W.heap.size W wr) := HBU.out.trans (Below.mono HP.out.low HBU.out.size)
        have HPR := Lib.hid (HPU3.out wr HP.out.low)
        obtain ⟨q0, q1, q2⟩ := hcel i hil
        have e0 := cell_gr HBW.out q0
        have hav := wf_in (HQS.out.wf _ (List.getElem_mem hil))
        obtain ⟨d, hd⟩ : ∃ d, d = qs[i].what.toNat := ⟨_, rfl⟩
        obtain ⟨av, havv⟩ : ∃ av, av = qs[i].a := ⟨_, rfl⟩
        obtain ⟨iv, hivv⟩ : ∃ iv, iv = qs[i].inn := ⟨_, rfl⟩
        have hd256 : d < 256 := by rw [hd]; exact UInt8.toNat_lt _
        rw [← hd] at e0
        have E0 := Lib.hid e0
        have E1 := Lib.hid (cell_gr HBW.out q1)
        have E2 := Lib.hid (cell_gr HBW.out q2)
        rw [← havv] at E1 hav
        rw [← hivv] at E2
        clear q0 q1 q2 hcel hd havv hivv hil e0
        have HAT := Lib.hid (fun w => at_any b (Z : Int) (.slice a2 n2 c2) (d : Int) av iv HBR.out rfl w)
        obtain ⟨AD, hAD⟩ : ∃ AD, AD = atA b av iv := ⟨_, rfl⟩
        have HADL : Hid (AD ≤ 9223372036854775807) := by show _ ≤ _; rw [hAD]; exact atA_le HBR.out.2 hav.2
        rw [← hAD] at HAT
        have x2 : ((d : Int)).tmod 4 = ((d % 4 : Nat) : Int) := by rw [Int.tmod_eq_emod_of_nonneg (Int.natCast_nonneg _)]; rfl
        obtain ⟨r, hr⟩ : ∃ r, r = d % 4 := ⟨_, rfl⟩
        rw [← hr] at x2
        have hr4 : r < 4 := by omega
        have hi1 : (i : Int) < (n1 : Int) := by omega
        clear hr hd256 hAD hav
        go_upto_region 12 with fail
        have HC : Hid (Gr wr wr.drew) := Gr.drew wr
        refine wp_region_G 7 Gr (by kernel_rfl) ?_
        generalize wr.drew = wc at HC ⊢
        -- 0: slot 74
        refine wpG_take preGr (i := 0) (v := ?_) (by kernel_rfl) (some 74) (by kernel_rfl) rfl (by kernel_rfl) (by kernel_rfl) (by kernel_rfl) (fun _ _ _ h => h) (by rfl) (fun w' hw' => ?_) rfl ?_
        rotate_left
        · try (have hxx := cells3' (heap_gr (Gr.trans HC.out hw') HPR.out); obtain ⟨k0, k1, k2⟩ := hxx; have e0 := cell_gr (Gr.trans HC.out hw') E0.out; have e1 := cell_gr (Gr.trans HC.out hw') E1.out; have e2 := cell_gr (Gr.trans HC.out hw') E2.out)
          go_simp
          with_reducible rfl
        simp only [Act.put, List.setIfInBounds_toArray, List.set_cons_zero, List.set_cons_succ]
        -- 1: slot 75
        refine wpG_take preGr (i := 1) (v := ?_) (by kernel_rfl) (some 75) (by kernel_rfl) rfl (by kernel_rfl) (by kernel_rfl) (by kernel_rfl) (fun _ _ _ h => h) (by rfl) (fun w' hw' => ?_) rfl ?_
        rotate_left
        · try (have hxx := cells3' (heap_gr (Gr.trans HC.out hw') HPR.out); obtain ⟨k0, k1, k2⟩ := hxx; have e0 := cell_gr (Gr.trans HC.out hw') E0.out; have e1 := cell_gr (Gr.trans HC.out hw') E1.out; have e2 := cell_gr (Gr.trans HC.out hw') E2.out)
          go_simp
          with_reducible rfl
        simp only [Act.put, List.setIfInBounds_toArray, List.set_cons_zero, List.set_cons_succ]
        -- 2: slot 76
        refine wpG_take preGr (i := 2) (v := ?_) (by kernel_rfl) (some 76) (by kernel_rfl) rfl (by kernel_rfl) (by kernel_rfl) (by kernel_rfl) (fun _ _ _ h => h) (by rfl) (fun w' hw' => ?_) rfl ?_
        rotate_left
        · try (have hxx := cells3' (heap_gr (Gr.trans HC.out hw') HPR.out); obtain ⟨k0, k1, k2⟩ := hxx; have e0 := cell_gr (Gr.trans HC.out hw') E0.out; have e1 := cell_gr (Gr.trans HC.out hw') E1.out; have e2 := cell_gr (Gr.trans HC.out hw') E2.out)
          go_simp
          with_reducible rfl
        simp only [Act.put, List.setIfInBounds_toArray, List.set_cons_zero, List.set_cons_succ]
        -- 3: slot 77
        refine wpG_take preGr (i := 3) (v := ?_) (by kernel_rfl) (some 77) (by kernel_rfl) rfl (by kernel_rfl) (by kernel_rfl) (by kernel_rfl) (fun _ _ _ h => h) (by rfl) (fun w' hw' => ?_) rfl ?_
        rotate_left
        · try (have hxx := cells3' (heap_gr (Gr.trans HC.out hw') HPR.out); obtain ⟨k0, k1, k2⟩ := hxx; have e0 := cell_gr (Gr.trans HC.out hw') E0.out; have e1 := cell_gr (Gr.trans HC.out hw') E1.out; have e2 := cell_gr (Gr.trans HC.out hw') E2.out)
          go_simp
          with_reducible rfl
        simp only [Act.put, List.setIfInBounds_toArray, List.set_cons_zero, List.set_cons_succ]
        -- 4: slot 78
        refine wpG_take preGr (i := 4) (v := ?_) (by kernel_rfl) (some 78) (by kernel_rfl) rfl (by kernel_rfl) (by kernel_rfl) (by kernel_rfl) (fun _ _ _ h => h) (by rfl) (fun w' hw' => ?_) rfl ?_
        rotate_left
        · try (have hxx := cells3' (heap_gr (Gr.trans HC.out hw') HPR.out); obtain ⟨k0, k1, k2⟩ := hxx; have e0 := cell_gr (Gr.trans HC.out hw') E0.out; have e1 := cell_gr (Gr.trans HC.out hw') E1.out; have e2 := cell_gr (Gr.trans HC.out hw') E2.out)
          go_simp
          with_reducible rfl
        simp only [Act.put, List.setIfInBounds_toArray, List.set_cons_zero, List.set_cons_succ]
        refine wpG_one (i := 5) rfl (by kernel_rfl) (by rfl) ?_
        go_simp
        refine (HAT.out wc).mono ?_
        rintro e wn ⟨rfl, hb⟩
        refine ⟨hb, ?_⟩
        have HC' : Hid (Gr wr wn) := Gr.trans HC.out hb
        clear HC hb
        have HC := HC'
        clear HC'
        obtain ⟨wc, hwc⟩ : ∃ x, x = wn := ⟨_, rfl⟩
        subst hwc
        try simp only [Act.put, List.setIfInBounds_toArray, List.set_cons_zero, List.set_cons_succ]
        -- 6: slot 10
        refine wpG_take preGr (i := 6) (v := ?_) (by kernel_rfl) (some 10) (by kernel_rfl) rfl (by kernel_rfl) (by kernel_rfl) (by kernel_rfl) (fun _ _ _ h => h) (by rfl) (fun w' hw' => ?_) rfl ?_
        rotate_left
        · try (have hxx := cells3' (heap_gr (Gr.trans HC.out hw') HPR.out); obtain ⟨k0, k1, k2⟩ := hxx; have e0 := cell_gr (Gr.trans HC.out hw') E0.out; have e1 := cell_gr (Gr.trans HC.out hw') E1.out; have e2 := cell_gr (Gr.trans HC.out hw') E2.out)
          go_simp
          with_reducible rfl
        simp only [Act.put, List.setIfInBounds_toArray, List.set_cons_zero, List.set_cons_succ]
        refine wpG_done (by kernel_rfl) ?_ _
        have HPC := Lib.hid (HP.out.gr HC.out)
        have HDC := Lib.hid (HDS.out.gr HC.out)
        have e0 := cell_gr HC.out E0.out
        clear HC HP HDS HAT HPR HBW E0 E1 E2
        rcases (show r = 0 ∨ r = 1 ∨ r = 2 ∨ r = 3 by omega) with rfl | rfl | rfl | rfl
        · clear hr4
          have HT := Lib.hid (take_lp HPC.out)
          obtain ⟨X, hX⟩ : ∃ X, X = (take S).2.1 := ⟨_, rfl⟩
          obtain ⟨Y, hY⟩ : ∃ Y, Y = (take S).2.2 := ⟨_, rfl⟩
          rw [← hX, ← hY] at HT
          have p1 : ((X : Int) != X) = false := by simp
          obtain ⟨T, hT⟩ : ∃ T, T = (take S).1 := ⟨_, rfl⟩
          rw [← hT] at HT
          have HRN : Hid (Pl.Rng T b Z l2) := by show Pl.Rng _ _ _ _; rw [hT]; exact HRG.out.take
          have p2 : ((Y : Int) != Y) = false := by simp
          have HHT := Lib.hid hT
          have HHY := Lib.hid hY
          have HHX := Lib.hid hX
          clear hX
          clear hT hY
          go_wp2_with fail
          refine HT.out.mono ?_
          rintro e w2 ⟨rfl, m2, hp2, _, _, ht⟩
          have HP2 := Lib.hid hp2
          have HD2 := Lib.hid (HDC.out.go HPC.out ht)
          have hu2 := hp2.low.size
          have hdd := dtake_ds HD2.out HRG.out hu2 HPC.out.po.ok (Rd.below HIU.out hp2.low)
          rw [← HHT.out, ← HHY.out, ← HHX.out] at hdd
          have HD := Lib.hid hdd
          have HU2 := Lib.hid hu2
          obtain ⟨k0, k1, k2, k3⟩ := cells4' HD2.out.cell
          clear hp2 ht hdd hu2 HT HPC HDC HHT HHY HHX
          go_wp2_with fail
          refine HD.out.mono ?_
          rintro e w3 ⟨v, rfl, al', nl', cl', rfl, hown, hlen, hb3⟩
          have HOW := Lib.hid hown
          have HLN := Lib.hid hlen
          have HB3 := Lib.hid hb3
          clear hown hlen hb3 k0 k1 k2 k3 HD
          have HZZ : Hid ((w3.alloc (.cells #[.int .i64 0, .int .i64 0, .slice none 0 0, .slice none 0 0] 35)).heap[w3.heap.size]? = some (.cells #[.int .i64 0, .int .i64 0, .slice none 0 0, .slice none 0 0] 35 (0, 0))) := heap_alloc_last _ _
          go_wp2_with (with_reducible refine wpList_store_doc rfl _ _ rfl w3.heap.size _ _ _ _ _ _ _ _ rfl rfl HZZ.out ?_)
          intro w4 h4 ho4
          have HB4 : Hid (Below w3.heap.size w3 w4) := ho4.below w3.heap.size w3 (Nat.le_refl _) ((Below.refl _ _).alloc (Nat.le_refl _) _)
          have HB24 : Hid (Below w2.heap.size w2 w4) := HB3.out.trans (Below.mono HB4.out HB3.out.size)
          have HGW := Lib.hid (heap_gr HB24.out HD2.out.cell)
          obtain ⟨k0, k1, k2, k3⟩ := cells4' h4
          clear h4 ho4 HZZ
          go_wp2_with (with_reducible refine wpList_store_dw rfl _ _ rfl gw _ _ _ _ _ _ _ _ rfl rfl _ _ _ _ HGW.out ?_)
          intro w5 h5 ho5
          have HDN : Hid (Ds U gw b Z (.slice a2 n2 c2) T.L al' nl' cl' w5) := HD2.out.put HB24.out (own_keep HOW.out fun q hq => HB4.out.block q (Id.own_blk HOW.out q hq).2) HLN.out h5 ho5
          have HPN : Hid (LP U g m2 w5 T) := (HP2.out.gr HB24.out).only HGW.out ho5 HD2.out.le HD2.out.pos
          have HIR9 : Hid (∀ w, Gr w5 w → IR w (.slice a2 n2 c2) l2) := fun w h => Rd.below HIU.out (HPN.out.low.trans (Below.mono h HPN.out.low.size))
          obtain ⟨F, hF⟩ : ∃ F, F = free T := ⟨_, rfl⟩
          obtain ⟨B, hB⟩ : ∃ B, B = has T AD := ⟨_, rfl⟩
          clear h5 ho5 k0 k1 k2 k3 HGW HB24 HB4 HB3 HLN HOW HD2 HP2 HU2 HRG

          have HF1 : Hid (∀ w, Gr w5 w → Calls Tryd.prog 24 #[.pointer (some ⟨g, 0, none⟩)] w fun e w' => e = .returned (.int .i64 F) ∧ w = w') := fun w h => by rw [hF]; exact free_lp (HPN.out.gr h)
          have HF2 : Hid (∀ w, Gr w5 w → Calls Tryd.prog 25 #[.agg #[.int .i64 b, .int .i64 (Z : Int), .slice a2 n2 c2, .slice al' nl' cl']] w fun e w' => e = .returned (.int .i64 F) ∧ Below w.heap.size w w') := fun w h => by rw [hF]; exact dfree_ds (HDN.out.gr h) HRN.out HPN.out.po.ok (HIR9.out w h)
          have HH1 : Hid (∀ w, Gr w5 w → Calls Tryd.prog 26 #[.pointer (some ⟨g, 0, none⟩), .int .i64 AD] w fun e w' => e = .returned (.bool B) ∧ w = w') := fun w h => by rw [hB]; exact has_lp (HPN.out.gr h) AD HADL.out
          have HH2 : Hid (∀ w, Gr w5 w → Calls Tryd.prog 27 #[.agg #[.int .i64 b, .int .i64 (Z : Int), .slice a2 n2 c2, .slice al' nl' cl'], .int .i64 AD] w fun e w' => e = .returned (.bool B) ∧ Below w.heap.size w w') := fun w h => by rw [hB]; exact dhas_ds (HDN.out.gr h) HRN.out HPN.out.po.ok (HIR9.out w h) AD HADL.out
          have HL1 : Hid (∀ w, Gr w5 w → Calls Tryd.prog 23 #[.pointer (some ⟨g, 0, none⟩)] w fun e w' => ∃ A C, e = .returned (.slice A nl' C) ∧ IR w' (.slice A nl' C) T.L ∧ Below w.heap.size w w') := fun w h => by
            refine (leased_lp (HPN.out.gr h)).mono ?_
            rintro e w' ⟨v, rfl, ho, hb, _⟩
            obtain ⟨A, C, rfl, _, _⟩ := (own_rd ho).shape
            have hl := HDN.out.len
            exact ⟨A, C, by rw [hl], by rw [hl]; exact own_rd ho, hb⟩
          have HS1 : Hid (∀ w A C, Gr w5 w → IR w (.slice A nl' C) T.L → Calls Tryd.prog 22 #[.slice A nl' C, .slice al' nl' cl'] w fun e w' => e = .returned (.bool true) ∧ Below w.heap.size w w') := fun w A C h hi => same_rows w hi (HDN.out.gr h).ir (by have := OkP.few HPN.out.po.ok; omega)
          have q1 : ((F : Int) != F) = false := by simp
          have q2 : (B != B) = false := by simp
          have HCE := Lib.hid HDN.out.cell
          clear hF hB
          go_upto_region 37 with fail
          have HC : Hid (Gr w5 w5.drew) := Gr.drew w5
          refine wp_region_G 22 Gr (by kernel_rfl) ?_
          generalize w5.drew = wc at HC ⊢
          -- 0: slot 145
          refine wpG_take preGr (i := 0) (v := ?_) (by kernel_rfl) (some 145) (by kernel_rfl) rfl (by kernel_rfl) (by kernel_rfl) (by kernel_rfl) (fun _ _ _ h => h) (by rfl) (fun w' hw' => ?_) rfl ?_
          rotate_left
          · try (have hxx := cells4' (heap_gr (Gr.trans HC.out hw') HCE.out); obtain ⟨k0, k1, k2, k3⟩ := hxx)
            go_simp
            with_reducible rfl
          simp only [Act.put, List.setIfInBounds_toArray, List.set_cons_zero, List.set_cons_succ]
          -- 2: slot 147
          refine wpG_take preGr (i := 2) (v := ?_) (by kernel_rfl) (some 147) (by kernel_rfl) rfl (by kernel_rfl) (by kernel_rfl) (by kernel_rfl) (fun _ _ _ h => h) (by rfl) (fun w' hw' => ?_) rfl ?_
          rotate_left
          · try (have hxx := cells4' (heap_gr (Gr.trans HC.out hw') HCE.out); obtain ⟨k0, k1, k2, k3⟩ := hxx)
            go_simp
            with_reducible rfl
          simp only [Act.put, List.setIfInBounds_toArray, List.set_cons_zero, List.set_cons_succ]
          -- 3: slot 148
          refine wpG_take preGr (i := 3) (v := ?_) (by kernel_rfl) (some 148) (by kernel_rfl) rfl (by kernel_rfl) (by kernel_rfl) (by kernel_rfl) (fun _ _ _ h => h) (by rfl) (fun w' hw' => ?_) rfl ?_
          rotate_left
          · try (have hxx := cells4' (heap_gr (Gr.trans HC.out hw') HCE.out); obtain ⟨k0, k1, k2, k3⟩ := hxx)
            go_simp
            with_reducible rfl
          simp only [Act.put, List.setIfInBounds_toArray, List.set_cons_zero, List.set_cons_succ]
          refine wpG_one (i := 1) rfl (by kernel_rfl) (by rfl) ?_
          go_simp
          refine (HL1.out wc HC.out).mono ?_
          rintro e wn ⟨A6, C6, rfl, hi6, hb⟩
          refine ⟨hb, ?_⟩
          have HI6 := Lib.hid hi6
          have HC' : Hid (Gr w5 wn) := Gr.trans HC.out hb
          obtain ⟨wi, hwi⟩ : ∃ x, x = wn := ⟨_, rfl⟩
          rw [← hwi] at HI6
          have HGI : Hid (Gr wi wn) := by show Gr _ _; rw [hwi]; exact Gr.refl _
          clear HC hb hi6 hwi
          have HC := HC'
          clear HC'
          obtain ⟨wc, hwc⟩ : ∃ x, x = wn := ⟨_, rfl⟩
          subst hwc
          try simp only [Act.put, List.setIfInBounds_toArray, List.set_cons_zero, List.set_cons_succ]
          refine wpG_one (i := 4) rfl (by kernel_rfl) (by rfl) ?_
          go_simp
          refine (HS1.out wc A6 C6 HC.out (Rd.below HI6.out HGI.out)).mono ?_
          rintro e wn ⟨rfl, hb⟩
          refine ⟨hb, ?_⟩
          have HC' : Hid (Gr w5 wn) := Gr.trans HC.out hb
          have HGI' : Hid (Gr wi wn) := Gr.trans HGI.out hb
          clear HC HGI hb
          have HC := HC'
          have HGI := HGI'
          clear HC' HGI'
          obtain ⟨wc, hwc⟩ : ∃ x, x = wn := ⟨_, rfl⟩
          subst hwc
          try simp only [Act.put, List.setIfInBounds_toArray, List.set_cons_zero, List.set_cons_succ]
          -- 5: slot 150
          refine wpG_take preGr (i := 5) (v := ?_) (by kernel_rfl) (some 150) (by kernel_rfl) rfl (by kernel_rfl) (by kernel_rfl) (by kernel_rfl) (fun _ _ _ h => h) (by rfl) (fun w' hw' => ?_) rfl ?_
          rotate_left
          · try (have hxx := cells4' (heap_gr (Gr.trans HC.out hw') HCE.out); obtain ⟨k0, k1, k2, k3⟩ := hxx)
            go_simp
            with_reducible rfl
          simp only [Act.put, List.setIfInBounds_toArray, List.set_cons_zero, List.set_cons_succ]
          -- 6: slot 151
          refine wpG_take preGr (i := 6) (v := ?_) (by kernel_rfl) (some 151) (by kernel_rfl) rfl (by kernel_rfl) (by kernel_rfl) (by kernel_rfl) (fun _ _ _ h => h) (by rfl) (fun w' hw' => ?_) rfl ?_
          rotate_left
          · try (have hxx := cells4' (heap_gr (Gr.trans HC.out hw') HCE.out); obtain ⟨k0, k1, k2, k3⟩ := hxx)
            go_simp
            with_reducible rfl
          simp only [Act.put, List.setIfInBounds_toArray, List.set_cons_zero, List.set_cons_succ]
          -- 7: slot 152
          refine wpG_take preGr (i := 7) (v := ?_) (by kernel_rfl) (some 152) (by kernel_rfl) rfl (by kernel_rfl) (by kernel_rfl) (by kernel_rfl) (fun _ _ _ h => h) (by rfl) (fun w' hw' => ?_) rfl ?_
          rotate_left
          · try (have hxx := cells4' (heap_gr (Gr.trans HC.out hw') HCE.out); obtain ⟨k0, k1, k2, k3⟩ := hxx)
            go_simp
            with_reducible rfl
          simp only [Act.put, List.setIfInBounds_toArray, List.set_cons_zero, List.set_cons_succ]
          -- 9: slot 154
          refine wpG_take preGr (i := 9) (v := ?_) (by kernel_rfl) (some 154) (by kernel_rfl) rfl (by kernel_rfl) (by kernel_rfl) (by kernel_rfl) (fun _ _ _ h => h) (by rfl) (fun w' hw' => ?_) rfl ?_
          rotate_left
          · try (have hxx := cells4' (heap_gr (Gr.trans HC.out hw') HCE.out); obtain ⟨k0, k1, k2, k3⟩ := hxx)
            go_simp
            with_reducible rfl
          simp only [Act.put, List.setIfInBounds_toArray, List.set_cons_zero, List.set_cons_succ]
          refine wpG_one (i := 8) rfl (by kernel_rfl) (by rfl) ?_
          go_simp
          refine (HF1.out wc HC.out).mono ?_
          rintro e wn ⟨rfl, rfl⟩
          refine ⟨Gr.refl _, ?_⟩
          try simp only [Act.put, List.setIfInBounds_toArray, List.set_cons_zero, List.set_cons_succ]
          refine wpG_one (i := 10) rfl (by kernel_rfl) (by rfl) ?_
          go_simp
          refine (HF2.out wc HC.out).mono ?_
          rintro e wn ⟨rfl, hb⟩
          refine ⟨hb, ?_⟩
          have HC' : Hid (Gr w5 wn) := Gr.trans HC.out hb
          have HGI' : Hid (Gr wi wn) := Gr.trans HGI.out hb
          clear HC HGI hb
          have HC := HC'
          have HGI := HGI'
          clear HC' HGI'
          obtain ⟨wc, hwc⟩ : ∃ x, x = wn := ⟨_, rfl⟩
          subst hwc
          try simp only [Act.put, List.setIfInBounds_toArray, List.set_cons_zero, List.set_cons_succ]
          -- 11: slot 156
          refine wpG_take preGr (i := 11) (v := ?_) (by kernel_rfl) (some 156) (by kernel_rfl) rfl (by kernel_rfl) (by kernel_rfl) (by kernel_rfl) (fun _ _ _ h => h) (by rfl) (fun w' hw' => ?_) rfl ?_
          rotate_left
          · try (have hxx := cells4' (heap_gr (Gr.trans HC.out hw') HCE.out); obtain ⟨k0, k1, k2, k3⟩ := hxx)
            go_simp
            with_reducible rfl
          simp only [Act.put, List.setIfInBounds_toArray, List.set_cons_zero, List.set_cons_succ]
          -- 12: slot 157
          refine wpG_take preGr (i := 12) (v := ?_) (by kernel_rfl) (some 157) (by kernel_rfl) rfl (by kernel_rfl) (by kernel_rfl) (by kernel_rfl) (fun _ _ _ h => h) (by rfl) (fun w' hw' => ?_) rfl ?_
          rotate_left
          · try (have hxx := cells4' (heap_gr (Gr.trans HC.out hw') HCE.out); obtain ⟨k0, k1, k2, k3⟩ := hxx)
            go_simp
            with_reducible rfl
          simp only [Act.put, List.setIfInBounds_toArray, List.set_cons_zero, List.set_cons_succ]
          -- 13: slot 158
          refine wpG_take preGr (i := 13) (v := ?_) (by kernel_rfl) (some 158) (by kernel_rfl) rfl (by kernel_rfl) (by kernel_rfl) (by kernel_rfl) (fun _ _ _ h => h) (by rfl) (fun w' hw' => ?_) rfl ?_
          rotate_left
          · try (have hxx := cells4' (heap_gr (Gr.trans HC.out hw') HCE.out); obtain ⟨k0, k1, k2, k3⟩ := hxx)
            go_simp
            with_reducible rfl
          simp only [Act.put, List.setIfInBounds_toArray, List.set_cons_zero, List.set_cons_succ]
          -- 14: slot 159
          refine wpG_take preGr (i := 14) (v := ?_) (by kernel_rfl) (some 159) (by kernel_rfl) rfl (by kernel_rfl) (by kernel_rfl) (by kernel_rfl) (fun _ _ _ h => h) (by rfl) (fun w' hw' => ?_) rfl ?_
          rotate_left
          · try (have hxx := cells4' (heap_gr (Gr.trans HC.out hw') HCE.out); obtain ⟨k0, k1, k2, k3⟩ := hxx)
            go_simp
            with_reducible rfl
          simp only [Act.put, List.setIfInBounds_toArray, List.set_cons_zero, List.set_cons_succ]
          -- 15: slot 160
          refine wpG_take preGr (i := 15) (v := ?_) (by kernel_rfl) (some 160) (by kernel_rfl) rfl (by kernel_rfl) (by kernel_rfl) (by kernel_rfl) (fun _ _ _ h => h) (by rfl) (fun w' hw' => ?_) rfl ?_
          rotate_left
          · try (have hxx := cells4' (heap_gr (Gr.trans HC.out hw') HCE.out); obtain ⟨k0, k1, k2, k3⟩ := hxx)
            go_simp
            with_reducible rfl
          simp only [Act.put, List.setIfInBounds_toArray, List.set_cons_zero, List.set_cons_succ]
          -- 17: slot 162
          refine wpG_take preGr (i := 17) (v := ?_) (by kernel_rfl) (some 162) (by kernel_rfl) rfl (by kernel_rfl) (by kernel_rfl) (by kernel_rfl) (fun _ _ _ h => h) (by rfl) (fun w' hw' => ?_) rfl ?_
          rotate_left
          · try (have hxx := cells4' (heap_gr (Gr.trans HC.out hw') HCE.out); obtain ⟨k0, k1, k2, k3⟩ := hxx)
            go_simp
            with_reducible rfl
          simp only [Act.put, List.setIfInBounds_toArray, List.set_cons_zero, List.set_cons_succ]
          -- 18: slot 163
          refine wpG_take preGr (i := 18) (v := ?_) (by kernel_rfl) (some 163) (by kernel_rfl) rfl (by kernel_rfl) (by kernel_rfl) (by kernel_rfl) (fun _ _ _ h => h) (by rfl) (fun w' hw' => ?_) rfl ?_
          rotate_left
          · try (have hxx := cells4' (heap_gr (Gr.trans HC.out hw') HCE.out); obtain ⟨k0, k1, k2, k3⟩ := hxx)
            go_simp
            with_reducible rfl
          simp only [Act.put, List.setIfInBounds_toArray, List.set_cons_zero, List.set_cons_succ]
          refine wpG_one (i := 16) rfl (by kernel_rfl) (by rfl) ?_
          go_simp
          refine (HH1.out wc HC.out).mono ?_
          rintro e wn ⟨rfl, rfl⟩
          refine ⟨Gr.refl _, ?_⟩
          try simp only [Act.put, List.setIfInBounds_toArray, List.set_cons_zero, List.set_cons_succ]
          refine wpG_one (i := 19) rfl (by kernel_rfl) (by rfl) ?_
          go_simp
          refine (HH2.out wc HC.out).mono ?_
          rintro e wn ⟨rfl, hb⟩
          refine ⟨hb, ?_⟩
          have HC' : Hid (Gr w5 wn) := Gr.trans HC.out hb
          have HGI' : Hid (Gr wi wn) := Gr.trans HGI.out hb
          clear HC HGI hb
          have HC := HC'
          have HGI := HGI'
          clear HC' HGI'
          obtain ⟨wc, hwc⟩ : ∃ x, x = wn := ⟨_, rfl⟩
          subst hwc
          try simp only [Act.put, List.setIfInBounds_toArray, List.set_cons_zero, List.set_cons_succ]
          -- 20: slot 165
          refine wpG_take preGr (i := 20) (v := ?_) (by kernel_rfl) (some 165) (by kernel_rfl) rfl (by kernel_rfl) (by kernel_rfl) (by kernel_rfl) (fun _ _ _ h => h) (by rfl) (fun w' hw' => ?_) rfl ?_
          rotate_left
          · try (have hxx := cells4' (heap_gr (Gr.trans HC.out hw') HCE.out); obtain ⟨k0, k1, k2, k3⟩ := hxx)
            go_simp
            with_reducible rfl
          simp only [Act.put, List.setIfInBounds_toArray, List.set_cons_zero, List.set_cons_succ]
          -- 21: slot 166
          refine wpG_take preGr (i := 21) (v := ?_) (by kernel_rfl) (some 166) (by kernel_rfl) rfl (by kernel_rfl) (by kernel_rfl) (by kernel_rfl) (fun _ _ _ h => h) (by rfl) (fun w' hw' => ?_) rfl ?_
          rotate_left
          · try (have hxx := cells4' (heap_gr (Gr.trans HC.out hw') HCE.out); obtain ⟨k0, k1, k2, k3⟩ := hxx)
            go_simp
            with_reducible rfl
          simp only [Act.put, List.setIfInBounds_toArray, List.set_cons_zero, List.set_cons_succ]
          refine wpG_done (by kernel_rfl) ?_ _
          have HPE := Lib.hid (HPN.out.gr HC.out)
          have HDE := Lib.hid (HDN.out.gr HC.out)
          clear HC HPN HDN HF1 HF2 HH1 HH2 HL1 HS1 HCE HIR9
          go_wp2_with fail
          go_roundw
          case rel =>
            first
              | exact ⟨i + 1, _, _, T, al', nl', cl', hle, by go_num, rfl, HPE, HDE, HRN⟩
              | ((repeat apply Exists.intro); exact ⟨⟨i + 1, _, _, T, al', nl', cl', hle, by go_num, rfl, HPE, HDE, HRN⟩, rfl⟩)
          case measure => simp [intOf]; omega
        · clear hr4
          have HT := Lib.hid (give_lp HPC.out AD HADL.out)
          obtain ⟨Y, hY⟩ : ∃ Y, Y = (give S AD).2 := ⟨_, rfl⟩
          rw [← hY] at HT
          obtain ⟨T, hT⟩ : ∃ T, T = (give S AD).1 := ⟨_, rfl⟩
          rw [← hT] at HT
          have HRN : Hid (Pl.Rng T b Z l2) := by show Pl.Rng _ _ _ _; rw [hT]; exact HRG.out.give AD
          have p2 : ((Y : Int) != Y) = false := by simp
          have HHT := Lib.hid hT
          have HHY := Lib.hid hY
          clear hT hY
          go_wp2_with fail
          refine HT.out.mono ?_
          rintro e w2 ⟨rfl, m2, hp2, _, _, ht⟩
          have HP2 := Lib.hid hp2
          have HD2 := Lib.hid (HDC.out.go HPC.out ht)
          have hu2 := hp2.low.size
          have hdd := dgive_ds HD2.out HRG.out hu2 HPC.out.po.ok (Rd.below HIU.out hp2.low) AD HADL.out
          rw [← HHT.out, ← HHY.out] at hdd
          have HD := Lib.hid hdd
          have HU2 := Lib.hid hu2
          obtain ⟨k0, k1, k2, k3⟩ := cells4' HD2.out.cell
          clear hp2 ht hdd hu2 HT HPC HDC HHT HHY
          go_wp2_with fail
          refine HD.out.mono ?_
          rintro e w3 ⟨v, rfl, al', nl', cl', rfl, hown, hlen, hb3⟩
          have HOW := Lib.hid hown
          have HLN := Lib.hid hlen
          have HB3 := Lib.hid hb3
          clear hown hlen hb3 k0 k1 k2 k3 HD
          have HZZ : Hid ((w3.alloc (.cells #[.int .i64 0, .int .i64 0, .slice none 0 0, .slice none 0 0] 35)).heap[w3.heap.size]? = some (.cells #[.int .i64 0, .int .i64 0, .slice none 0 0, .slice none 0 0] 35 (0, 0))) := heap_alloc_last _ _
          go_wp2_with (with_reducible refine wpList_store_doc rfl _ _ rfl w3.heap.size _ _ _ _ _ _ _ _ rfl rfl HZZ.out ?_)
          intro w4 h4 ho4
          have HB4 : Hid (Below w3.heap.size w3 w4) := ho4.below w3.heap.size w3 (Nat.le_refl _) ((Below.refl _ _).alloc (Nat.le_refl _) _)
          have HB24 : Hid (Below w2.heap.size w2 w4) := HB3.out.trans (Below.mono HB4.out HB3.out.size)
          have HGW := Lib.hid (heap_gr HB24.out HD2.out.cell)
          obtain ⟨k0, k1, k2, k3⟩ := cells4' h4
          clear h4 ho4 HZZ
          go_wp2_with (with_reducible refine wpList_store_dw rfl _ _ rfl gw _ _ _ _ _ _ _ _ rfl rfl _ _ _ _ HGW.out ?_)
          intro w5 h5 ho5
          have HDN : Hid (Ds U gw b Z (.slice a2 n2 c2) T.L al' nl' cl' w5) := HD2.out.put HB24.out (own_keep HOW.out fun q hq => HB4.out.block q (Id.own_blk HOW.out q hq).2) HLN.out h5 ho5
          have HPN : Hid (LP U g m2 w5 T) := (HP2.out.gr HB24.out).only HGW.out ho5 HD2.out.le HD2.out.pos
          have HIR9 : Hid (∀ w, Gr w5 w → IR w (.slice a2 n2 c2) l2) := fun w h => Rd.below HIU.out (HPN.out.low.trans (Below.mono h HPN.out.low.size))
          obtain ⟨F, hF⟩ : ∃ F, F = free T := ⟨_, rfl⟩
          obtain ⟨B, hB⟩ : ∃ B, B = has T AD := ⟨_, rfl⟩
          clear h5 ho5 k0 k1 k2 k3 HGW HB24 HB4 HB3 HLN HOW HD2 HP2 HU2 HRG

          have HF1 : Hid (∀ w, Gr w5 w → Calls Tryd.prog 24 #[.pointer (some ⟨g, 0, none⟩)] w fun e w' => e = .returned (.int .i64 F) ∧ w = w') := fun w h => by rw [hF]; exact free_lp (HPN.out.gr h)
          have HF2 : Hid (∀ w, Gr w5 w → Calls Tryd.prog 25 #[.agg #[.int .i64 b, .int .i64 (Z : Int), .slice a2 n2 c2, .slice al' nl' cl']] w fun e w' => e = .returned (.int .i64 F) ∧ Below w.heap.size w w') := fun w h => by rw [hF]; exact dfree_ds (HDN.out.gr h) HRN.out HPN.out.po.ok (HIR9.out w h)
          have HH1 : Hid (∀ w, Gr w5 w → Calls Tryd.prog 26 #[.pointer (some ⟨g, 0, none⟩), .int .i64 AD] w fun e w' => e = .returned (.bool B) ∧ w = w') := fun w h => by rw [hB]; exact has_lp (HPN.out.gr h) AD HADL.out
          have HH2 : Hid (∀ w, Gr w5 w → Calls Tryd.prog 27 #[.agg #[.int .i64 b, .int .i64 (Z : Int), .slice a2 n2 c2, .slice al' nl' cl'], .int .i64 AD] w fun e w' => e = .returned (.bool B) ∧ Below w.heap.size w w') := fun w h => by rw [hB]; exact dhas_ds (HDN.out.gr h) HRN.out HPN.out.po.ok (HIR9.out w h) AD HADL.out
          have HL1 : Hid (∀ w, Gr w5 w → Calls Tryd.prog 23 #[.pointer (some ⟨g, 0, none⟩)] w fun e w' => ∃ A C, e = .returned (.slice A nl' C) ∧ IR w' (.slice A nl' C) T.L ∧ Below w.heap.size w w') := fun w h => by
            refine (leased_lp (HPN.out.gr h)).mono ?_
            rintro e w' ⟨v, rfl, ho, hb, _⟩
            obtain ⟨A, C, rfl, _, _⟩ := (own_rd ho).shape
            have hl := HDN.out.len
            exact ⟨A, C, by rw [hl], by rw [hl]; exact own_rd ho, hb⟩
          have HS1 : Hid (∀ w A C, Gr w5 w → IR w (.slice A nl' C) T.L → Calls Tryd.prog 22 #[.slice A nl' C, .slice al' nl' cl'] w fun e w' => e = .returned (.bool true) ∧ Below w.heap.size w w') := fun w A C h hi => same_rows w hi (HDN.out.gr h).ir (by have := OkP.few HPN.out.po.ok; omega)
          have q1 : ((F : Int) != F) = false := by simp
          have q2 : (B != B) = false := by simp
          have HCE := Lib.hid HDN.out.cell
          clear hF hB
          go_upto_region 37 with fail
          have HC : Hid (Gr w5 w5.drew) := Gr.drew w5
          refine wp_region_G 22 Gr (by kernel_rfl) ?_
          generalize w5.drew = wc at HC ⊢
          -- 0: slot 145
          refine wpG_take preGr (i := 0) (v := ?_) (by kernel_rfl) (some 145) (by kernel_rfl) rfl (by kernel_rfl) (by kernel_rfl) (by kernel_rfl) (fun _ _ _ h => h) (by rfl) (fun w' hw' => ?_) rfl ?_
          rotate_left
          · try (have hxx := cells4' (heap_gr (Gr.trans HC.out hw') HCE.out); obtain ⟨k0, k1, k2, k3⟩ := hxx)
            go_simp
            with_reducible rfl
          simp only [Act.put, List.setIfInBounds_toArray, List.set_cons_zero, List.set_cons_succ]
          -- 2: slot 147
          refine wpG_take preGr (i := 2) (v := ?_) (by kernel_rfl) (some 147) (by kernel_rfl) rfl (by kernel_rfl) (by kernel_rfl) (by kernel_rfl) (fun _ _ _ h => h) (by rfl) (fun w' hw' => ?_) rfl ?_
          rotate_left
          · try (have hxx := cells4' (heap_gr (Gr.trans HC.out hw') HCE.out); obtain ⟨k0, k1, k2, k3⟩ := hxx)
            go_simp
            with_reducible rfl
          simp only [Act.put, List.setIfInBounds_toArray, List.set_cons_zero, List.set_cons_succ]
          -- 3: slot 148
          refine wpG_take preGr (i := 3) (v := ?_) (by kernel_rfl) (some 148) (by kernel_rfl) rfl (by kernel_rfl) (by kernel_rfl) (by kernel_rfl) (fun _ _ _ h => h) (by rfl) (fun w' hw' => ?_) rfl ?_
          rotate_left
          · try (have hxx := cells4' (heap_gr (Gr.trans HC.out hw') HCE.out); obtain ⟨k0, k1, k2, k3⟩ := hxx)
            go_simp
            with_reducible rfl
          simp only [Act.put, List.setIfInBounds_toArray, List.set_cons_zero, List.set_cons_succ]
          refine wpG_one (i := 1) rfl (by kernel_rfl) (by rfl) ?_
          go_simp
          refine (HL1.out wc HC.out).mono ?_
          rintro e wn ⟨A6, C6, rfl, hi6, hb⟩
          refine ⟨hb, ?_⟩
          have HI6 := Lib.hid hi6
          have HC' : Hid (Gr w5 wn) := Gr.trans HC.out hb
          obtain ⟨wi, hwi⟩ : ∃ x, x = wn := ⟨_, rfl⟩
          rw [← hwi] at HI6
          have HGI : Hid (Gr wi wn) := by show Gr _ _; rw [hwi]; exact Gr.refl _
          clear HC hb hi6 hwi
          have HC := HC'
          clear HC'
          obtain ⟨wc, hwc⟩ : ∃ x, x = wn := ⟨_, rfl⟩
          subst hwc
          try simp only [Act.put, List.setIfInBounds_toArray, List.set_cons_zero, List.set_cons_succ]
          refine wpG_one (i := 4) rfl (by kernel_rfl) (by rfl) ?_
          go_simp
          refine (HS1.out wc A6 C6 HC.out (Rd.below HI6.out HGI.out)).mono ?_
          rintro e wn ⟨rfl, hb⟩
          refine ⟨hb, ?_⟩
          have HC' : Hid (Gr w5 wn) := Gr.trans HC.out hb
          have HGI' : Hid (Gr wi wn) := Gr.trans HGI.out hb
          clear HC HGI hb
          have HC := HC'
          have HGI := HGI'
          clear HC' HGI'
          obtain ⟨wc, hwc⟩ : ∃ x, x = wn := ⟨_, rfl⟩
          subst hwc
          try simp only [Act.put, List.setIfInBounds_toArray, List.set_cons_zero, List.set_cons_succ]
          -- 5: slot 150
          refine wpG_take preGr (i := 5) (v := ?_) (by kernel_rfl) (some 150) (by kernel_rfl) rfl (by kernel_rfl) (by kernel_rfl) (by kernel_rfl) (fun _ _ _ h => h) (by rfl) (fun w' hw' => ?_) rfl ?_
          rotate_left
          · try (have hxx := cells4' (heap_gr (Gr.trans HC.out hw') HCE.out); obtain ⟨k0, k1, k2, k3⟩ := hxx)
            go_simp
            with_reducible rfl
          simp only [Act.put, List.setIfInBounds_toArray, List.set_cons_zero, List.set_cons_succ]
          -- 6: slot 151
          refine wpG_take preGr (i := 6) (v := ?_) (by kernel_rfl) (some 151) (by kernel_rfl) rfl (by kernel_rfl) (by kernel_rfl) (by kernel_rfl) (fun _ _ _ h => h) (by rfl) (fun w' hw' => ?_) rfl ?_
          rotate_left
          · try (have hxx := cells4' (heap_gr (Gr.trans HC.out hw') HCE.out); obtain ⟨k0, k1, k2, k3⟩ := hxx)
            go_simp
            with_reducible rfl
          simp only [Act.put, List.setIfInBounds_toArray, List.set_cons_zero, List.set_cons_succ]
          -- 7: slot 152
          refine wpG_take preGr (i := 7) (v := ?_) (by kernel_rfl) (some 152) (by kernel_rfl) rfl (by kernel_rfl) (by kernel_rfl) (by kernel_rfl) (fun _ _ _ h => h) (by rfl) (fun w' hw' => ?_) rfl ?_
          rotate_left
          · try (have hxx := cells4' (heap_gr (Gr.trans HC.out hw') HCE.out); obtain ⟨k0, k1, k2, k3⟩ := hxx)
            go_simp
            with_reducible rfl
          simp only [Act.put, List.setIfInBounds_toArray, List.set_cons_zero, List.set_cons_succ]
          -- 9: slot 154
          refine wpG_take preGr (i := 9) (v := ?_) (by kernel_rfl) (some 154) (by kernel_rfl) rfl (by kernel_rfl) (by kernel_rfl) (by kernel_rfl) (fun _ _ _ h => h) (by rfl) (fun w' hw' => ?_) rfl ?_
          rotate_left
          · try (have hxx := cells4' (heap_gr (Gr.trans HC.out hw') HCE.out); obtain ⟨k0, k1, k2, k3⟩ := hxx)
            go_simp
            with_reducible rfl
          simp only [Act.put, List.setIfInBounds_toArray, List.set_cons_zero, List.set_cons_succ]
          refine wpG_one (i := 8) rfl (by kernel_rfl) (by rfl) ?_
          go_simp
          refine (HF1.out wc HC.out).mono ?_
          rintro e wn ⟨rfl, rfl⟩
          refine ⟨Gr.refl _, ?_⟩
          try simp only [Act.put, List.setIfInBounds_toArray, List.set_cons_zero, List.set_cons_succ]
          refine wpG_one (i := 10) rfl (by kernel_rfl) (by rfl) ?_
          go_simp
          refine (HF2.out wc HC.out).mono ?_
          rintro e wn ⟨rfl, hb⟩
          refine ⟨hb, ?_⟩
          have HC' : Hid (Gr w5 wn) := Gr.trans HC.out hb
          have HGI' : Hid (Gr wi wn) := Gr.trans HGI.out hb
          clear HC HGI hb
          have HC := HC'
          have HGI := HGI'
          clear HC' HGI'
          obtain ⟨wc, hwc⟩ : ∃ x, x = wn := ⟨_, rfl⟩
          subst hwc
          try simp only [Act.put, List.setIfInBounds_toArray, List.set_cons_zero, List.set_cons_succ]
          -- 11: slot 156
          refine wpG_take preGr (i := 11) (v := ?_) (by kernel_rfl) (some 156) (by kernel_rfl) rfl (by kernel_rfl) (by kernel_rfl) (by kernel_rfl) (fun _ _ _ h => h) (by rfl) (fun w' hw' => ?_) rfl ?_
          rotate_left
          · try (have hxx := cells4' (heap_gr (Gr.trans HC.out hw') HCE.out); obtain ⟨k0, k1, k2, k3⟩ := hxx)
            go_simp
            with_reducible rfl
          simp only [Act.put, List.setIfInBounds_toArray, List.set_cons_zero, List.set_cons_succ]
          -- 12: slot 157
          refine wpG_take preGr (i := 12) (v := ?_) (by kernel_rfl) (some 157) (by kernel_rfl) rfl (by kernel_rfl) (by kernel_rfl) (by kernel_rfl) (fun _ _ _ h => h) (by rfl) (fun w' hw' => ?_) rfl ?_
          rotate_left
          · try (have hxx := cells4' (heap_gr (Gr.trans HC.out hw') HCE.out); obtain ⟨k0, k1, k2, k3⟩ := hxx)
            go_simp
            with_reducible rfl
          simp only [Act.put, List.setIfInBounds_toArray, List.set_cons_zero, List.set_cons_succ]
          -- 13: slot 158
          refine wpG_take preGr (i := 13) (v := ?_) (by kernel_rfl) (some 158) (by kernel_rfl) rfl (by kernel_rfl) (by kernel_rfl) (by kernel_rfl) (fun _ _ _ h => h) (by rfl) (fun w' hw' => ?_) rfl ?_
          rotate_left
          · try (have hxx := cells4' (heap_gr (Gr.trans HC.out hw') HCE.out); obtain ⟨k0, k1, k2, k3⟩ := hxx)
            go_simp
            with_reducible rfl
          simp only [Act.put, List.setIfInBounds_toArray, List.set_cons_zero, List.set_cons_succ]
          -- 14: slot 159
          refine wpG_take preGr (i := 14) (v := ?_) (by kernel_rfl) (some 159) (by kernel_rfl) rfl (by kernel_rfl) (by kernel_rfl) (by kernel_rfl) (fun _ _ _ h => h) (by rfl) (fun w' hw' => ?_) rfl ?_
          rotate_left
          · try (have hxx := cells4' (heap_gr (Gr.trans HC.out hw') HCE.out); obtain ⟨k0, k1, k2, k3⟩ := hxx)
            go_simp
            with_reducible rfl
          simp only [Act.put, List.setIfInBounds_toArray, List.set_cons_zero, List.set_cons_succ]
          -- 15: slot 160
          refine wpG_take preGr (i := 15) (v := ?_) (by kernel_rfl) (some 160) (by kernel_rfl) rfl (by kernel_rfl) (by kernel_rfl) (by kernel_rfl) (fun _ _ _ h => h) (by rfl) (fun w' hw' => ?_) rfl ?_
          rotate_left
          · try (have hxx := cells4' (heap_gr (Gr.trans HC.out hw') HCE.out); obtain ⟨k0, k1, k2, k3⟩ := hxx)
            go_simp
            with_reducible rfl
          simp only [Act.put, List.setIfInBounds_toArray, List.set_cons_zero, List.set_cons_succ]
          -- 17: slot 162
          refine wpG_take preGr (i := 17) (v := ?_) (by kernel_rfl) (some 162) (by kernel_rfl) rfl (by kernel_rfl) (by kernel_rfl) (by kernel_rfl) (fun _ _ _ h => h) (by rfl) (fun w' hw' => ?_) rfl ?_
          rotate_left
          · try (have hxx := cells4' (heap_gr (Gr.trans HC.out hw') HCE.out); obtain ⟨k0, k1, k2, k3⟩ := hxx)
            go_simp
            with_reducible rfl
          simp only [Act.put, List.setIfInBounds_toArray, List.set_cons_zero, List.set_cons_succ]
          -- 18: slot 163
          refine wpG_take preGr (i := 18) (v := ?_) (by kernel_rfl) (some 163) (by kernel_rfl) rfl (by kernel_rfl) (by kernel_rfl) (by kernel_rfl) (fun _ _ _ h => h) (by rfl) (fun w' hw' => ?_) rfl ?_
          rotate_left
          · try (have hxx := cells4' (heap_gr (Gr.trans HC.out hw') HCE.out); obtain ⟨k0, k1, k2, k3⟩ := hxx)
            go_simp
            with_reducible rfl
          simp only [Act.put, List.setIfInBounds_toArray, List.set_cons_zero, List.set_cons_succ]
          refine wpG_one (i := 16) rfl (by kernel_rfl) (by rfl) ?_
          go_simp
          refine (HH1.out wc HC.out).mono ?_
          rintro e wn ⟨rfl, rfl⟩
          refine ⟨Gr.refl _, ?_⟩
          try simp only [Act.put, List.setIfInBounds_toArray, List.set_cons_zero, List.set_cons_succ]
          refine wpG_one (i := 19) rfl (by kernel_rfl) (by rfl) ?_
          go_simp
          refine (HH2.out wc HC.out).mono ?_
          rintro e wn ⟨rfl, hb⟩
          refine ⟨hb, ?_⟩
          have HC' : Hid (Gr w5 wn) := Gr.trans HC.out hb
          have HGI' : Hid (Gr wi wn) := Gr.trans HGI.out hb
          clear HC HGI hb
          have HC := HC'
          have HGI := HGI'
          clear HC' HGI'
          obtain ⟨wc, hwc⟩ : ∃ x, x = wn := ⟨_, rfl⟩
          subst hwc
          try simp only [Act.put, List.setIfInBounds_toArray, List.set_cons_zero, List.set_cons_succ]
          -- 20: slot 165
          refine wpG_take preGr (i := 20) (v := ?_) (by kernel_rfl) (some 165) (by kernel_rfl) rfl (by kernel_rfl) (by kernel_rfl) (by kernel_rfl) (fun _ _ _ h => h) (by rfl) (fun w' hw' => ?_) rfl ?_
          rotate_left
          · try (have hxx := cells4' (heap_gr (Gr.trans HC.out hw') HCE.out); obtain ⟨k0, k1, k2, k3⟩ := hxx)
            go_simp
            with_reducible rfl
          simp only [Act.put, List.setIfInBounds_toArray, List.set_cons_zero, List.set_cons_succ]
          -- 21: slot 166
          refine wpG_take preGr (i := 21) (v := ?_) (by kernel_rfl) (some 166) (by kernel_rfl) rfl (by kernel_rfl) (by kernel_rfl) (by kernel_rfl) (fun _ _ _ h => h) (by rfl) (fun w' hw' => ?_) rfl ?_
          rotate_left
          · try (have hxx := cells4' (heap_gr (Gr.trans HC.out hw') HCE.out); obtain ⟨k0, k1, k2, k3⟩ := hxx)
            go_simp
            with_reducible rfl
          simp only [Act.put, List.setIfInBounds_toArray, List.set_cons_zero, List.set_cons_succ]
          refine wpG_done (by kernel_rfl) ?_ _
          have HPE := Lib.hid (HPN.out.gr HC.out)
          have HDE := Lib.hid (HDN.out.gr HC.out)
          clear HC HPN HDN HF1 HF2 HH1 HH2 HL1 HS1 HCE HIR9
          go_wp2_with fail
          go_roundw
          case rel =>
            first
              | exact ⟨i + 1, _, _, T, al', nl', cl', hle, by go_num, rfl, HPE, HDE, HRN⟩
              | ((repeat apply Exists.intro); exact ⟨⟨i + 1, _, _, T, al', nl', cl', hle, by go_num, rfl, HPE, HDE, HRN⟩, rfl⟩)
          case measure => simp [intOf]; omega
        · clear hr4
          have HT := Lib.hid (want_lp HPC.out AD HADL.out)
          obtain ⟨Y, hY⟩ : ∃ Y, Y = (want S AD).2 := ⟨_, rfl⟩
          rw [← hY] at HT
          obtain ⟨T, hT⟩ : ∃ T, T = (want S AD).1 := ⟨_, rfl⟩
          rw [← hT] at HT
          have HRN : Hid (Pl.Rng T b Z l2) := by show Pl.Rng _ _ _ _; rw [hT]; exact HRG.out.want AD
          have p2 : ((Y : Int) != Y) = false := by simp
          have HHT := Lib.hid hT
          have HHY := Lib.hid hY
          clear hT hY
          go_wp2_with fail
          refine HT.out.mono ?_
          rintro e w2 ⟨rfl, m2, hp2, _, _, ht⟩
          have HP2 := Lib.hid hp2
          have HD2 := Lib.hid (HDC.out.go HPC.out ht)
          have hu2 := hp2.low.size
          have hdd := dwant_ds HD2.out HRG.out hu2 HPC.out.po.ok (Rd.below HIU.out hp2.low) AD HADL.out
          rw [← HHT.out, ← HHY.out] at hdd
          have HD := Lib.hid hdd
          have HU2 := Lib.hid hu2
          obtain ⟨k0, k1, k2, k3⟩ := cells4' HD2.out.cell
          clear hp2 ht hdd hu2 HT HPC HDC HHT HHY
          go_wp2_with fail
          refine HD.out.mono ?_
          rintro e w3 ⟨v, rfl, al', nl', cl', rfl, hown, hlen, hb3⟩
          have HOW := Lib.hid hown
          have HLN := Lib.hid hlen
          have HB3 := Lib.hid hb3
          clear hown hlen hb3 k0 k1 k2 k3 HD
          have HZZ : Hid ((w3.alloc (.cells #[.int .i64 0, .int .i64 0, .slice none 0 0, .slice none 0 0] 35)).heap[w3.heap.size]? = some (.cells #[.int .i64 0, .int .i64 0, .slice none 0 0, .slice none 0 0] 35 (0, 0))) := heap_alloc_last _ _
          go_wp2_with (with_reducible refine wpList_store_doc rfl _ _ rfl w3.heap.size _ _ _ _ _ _ _ _ rfl rfl HZZ.out ?_)
          intro w4 h4 ho4
          have HB4 : Hid (Below w3.heap.size w3 w4) := ho4.below w3.heap.size w3 (Nat.le_refl _) ((Below.refl _ _).alloc (Nat.le_refl _) _)
          have HB24 : Hid (Below w2.heap.size w2 w4) := HB3.out.trans (Below.mono HB4.out HB3.out.size)
          have HGW := Lib.hid (heap_gr HB24.out HD2.out.cell)
          obtain ⟨k0, k1, k2, k3⟩ := cells4' h4
          clear h4 ho4 HZZ
          go_wp2_with (with_reducible refine wpList_store_dw rfl _ _ rfl gw _ _ _ _ _ _ _ _ rfl rfl _ _ _ _ HGW.out ?_)
          intro w5 h5 ho5
          have HDN : Hid (Ds U gw b Z (.slice a2 n2 c2) T.L al' nl' cl' w5) := HD2.out.put HB24.out (own_keep HOW.out fun q hq => HB4.out.block q (Id.own_blk HOW.out q hq).2) HLN.out h5 ho5
          have HPN : Hid (LP U g m2 w5 T) := (HP2.out.gr HB24.out).only HGW.out ho5 HD2.out.le HD2.out.pos
          have HIR9 : Hid (∀ w, Gr w5 w → IR w (.slice a2 n2 c2) l2) := fun w h => Rd.below HIU.out (HPN.out.low.trans (Below.mono h HPN.out.low.size))
          obtain ⟨F, hF⟩ : ∃ F, F = free T := ⟨_, rfl⟩
          obtain ⟨B, hB⟩ : ∃ B, B = has T AD := ⟨_, rfl⟩
          clear h5 ho5 k0 k1 k2 k3 HGW HB24 HB4 HB3 HLN HOW HD2 HP2 HU2 HRG

          have HF1 : Hid (∀ w, Gr w5 w → Calls Tryd.prog 24 #[.pointer (some ⟨g, 0, none⟩)] w fun e w' => e = .returned (.int .i64 F) ∧ w = w') := fun w h => by rw [hF]; exact free_lp (HPN.out.gr h)
          have HF2 : Hid (∀ w, Gr w5 w → Calls Tryd.prog 25 #[.agg #[.int .i64 b, .int .i64 (Z : Int), .slice a2 n2 c2, .slice al' nl' cl']] w fun e w' => e = .returned (.int .i64 F) ∧ Below w.heap.size w w') := fun w h => by rw [hF]; exact dfree_ds (HDN.out.gr h) HRN.out HPN.out.po.ok (HIR9.out w h)
          have HH1 : Hid (∀ w, Gr w5 w → Calls Tryd.prog 26 #[.pointer (some ⟨g, 0, none⟩), .int .i64 AD] w fun e w' => e = .returned (.bool B) ∧ w = w') := fun w h => by rw [hB]; exact has_lp (HPN.out.gr h) AD HADL.out
          have HH2 : Hid (∀ w, Gr w5 w → Calls Tryd.prog 27 #[.agg #[.int .i64 b, .int .i64 (Z : Int), .slice a2 n2 c2, .slice al' nl' cl'], .int .i64 AD] w fun e w' => e = .returned (.bool B) ∧ Below w.heap.size w w') := fun w h => by rw [hB]; exact dhas_ds (HDN.out.gr h) HRN.out HPN.out.po.ok (HIR9.out w h) AD HADL.out
          have HL1 : Hid (∀ w, Gr w5 w → Calls Tryd.prog 23 #[.pointer (some ⟨g, 0, none⟩)] w fun e w' => ∃ A C, e = .returned (.slice A nl' C) ∧ IR w' (.slice A nl' C) T.L ∧ Below w.heap.size w w') := fun w h => by
            refine (leased_lp (HPN.out.gr h)).mono ?_
            rintro e w' ⟨v, rfl, ho, hb, _⟩
            obtain ⟨A, C, rfl, _, _⟩ := (own_rd ho).shape
            have hl := HDN.out.len
            exact ⟨A, C, by rw [hl], by rw [hl]; exact own_rd ho, hb⟩
          have HS1 : Hid (∀ w A C, Gr w5 w → IR w (.slice A nl' C) T.L → Calls Tryd.prog 22 #[.slice A nl' C, .slice al' nl' cl'] w fun e w' => e = .returned (.bool true) ∧ Below w.heap.size w w') := fun w A C h hi => same_rows w hi (HDN.out.gr h).ir (by have := OkP.few HPN.out.po.ok; omega)
          have q1 : ((F : Int) != F) = false := by simp
          have q2 : (B != B) = false := by simp
          have HCE := Lib.hid HDN.out.cell
          clear hF hB
          go_upto_region 37 with fail
          have HC : Hid (Gr w5 w5.drew) := Gr.drew w5
          refine wp_region_G 22 Gr (by kernel_rfl) ?_
          generalize w5.drew = wc at HC ⊢
          -- 0: slot 145
          refine wpG_take preGr (i := 0) (v := ?_) (by kernel_rfl) (some 145) (by kernel_rfl) rfl (by kernel_rfl) (by kernel_rfl) (by kernel_rfl) (fun _ _ _ h => h) (by rfl) (fun w' hw' => ?_) rfl ?_
          rotate_left
          · try (have hxx := cells4' (heap_gr (Gr.trans HC.out hw') HCE.out); obtain ⟨k0, k1, k2, k3⟩ := hxx)
            go_simp
            with_reducible rfl
          simp only [Act.put, List.setIfInBounds_toArray, List.set_cons_zero, List.set_cons_succ]
          -- 2: slot 147
          refine wpG_take preGr (i := 2) (v := ?_) (by kernel_rfl) (some 147) (by kernel_rfl) rfl (by kernel_rfl) (by kernel_rfl) (by kernel_rfl) (fun _ _ _ h => h) (by rfl) (fun w' hw' => ?_) rfl ?_
          rotate_left
          · try (have hxx := cells4' (heap_gr (Gr.trans HC.out hw') HCE.out); obtain ⟨k0, k1, k2, k3⟩ := hxx)
            go_simp
            with_reducible rfl
          simp only [Act.put, List.setIfInBounds_toArray, List.set_cons_zero, List.set_cons_succ]
          -- 3: slot 148
          refine wpG_take preGr (i := 3) (v := ?_) (by kernel_rfl) (some 148) (by kernel_rfl) rfl (by kernel_rfl) (by kernel_rfl) (by kernel_rfl) (fun _ _ _ h => h) (by rfl) (fun w' hw' => ?_) rfl ?_
          rotate_left
          · try (have hxx := cells4' (heap_gr (Gr.trans HC.out hw') HCE.out); obtain ⟨k0, k1, k2, k3⟩ := hxx)
            go_simp
            with_reducible rfl
          simp only [Act.put, List.setIfInBounds_toArray, List.set_cons_zero, List.set_cons_succ]
          refine wpG_one (i := 1) rfl (by kernel_rfl) (by rfl) ?_
          go_simp
          refine (HL1.out wc HC.out).mono ?_
          rintro e wn ⟨A6, C6, rfl, hi6, hb⟩
          refine ⟨hb, ?_⟩
          have HI6 := Lib.hid hi6
          have HC' : Hid (Gr w5 wn) := Gr.trans HC.out hb
          obtain ⟨wi, hwi⟩ : ∃ x, x = wn := ⟨_, rfl⟩
          rw [← hwi] at HI6
          have HGI : Hid (Gr wi wn) := by show Gr _ _; rw [hwi]; exact Gr.refl _
          clear HC hb hi6 hwi
          have HC := HC'
          clear HC'
          obtain ⟨wc, hwc⟩ : ∃ x, x = wn := ⟨_, rfl⟩
          subst hwc
          try simp only [Act.put, List.setIfInBounds_toArray, List.set_cons_zero, List.set_cons_succ]
          refine wpG_one (i := 4) rfl (by kernel_rfl) (by rfl) ?_
          go_simp
          refine (HS1.out wc A6 C6 HC.out (Rd.below HI6.out HGI.out)).mono ?_
          rintro e wn ⟨rfl, hb⟩
          refine ⟨hb, ?_⟩
          have HC' : Hid (Gr w5 wn) := Gr.trans HC.out hb
          have HGI' : Hid (Gr wi wn) := Gr.trans HGI.out hb
          clear HC HGI hb
          have HC := HC'
          have HGI := HGI'
          clear HC' HGI'
          obtain ⟨wc, hwc⟩ : ∃ x, x = wn := ⟨_, rfl⟩
          subst hwc
          try simp only [Act.put, List.setIfInBounds_toArray, List.set_cons_zero, List.set_cons_succ]
          -- 5: slot 150
          refine wpG_take preGr (i := 5) (v := ?_) (by kernel_rfl) (some 150) (by kernel_rfl) rfl (by kernel_rfl) (by kernel_rfl) (by kernel_rfl) (fun _ _ _ h => h) (by rfl) (fun w' hw' => ?_) rfl ?_
          rotate_left
          · try (have hxx := cells4' (heap_gr (Gr.trans HC.out hw') HCE.out); obtain ⟨k0, k1, k2, k3⟩ := hxx)
            go_simp
            with_reducible rfl
          simp only [Act.put, List.setIfInBounds_toArray, List.set_cons_zero, List.set_cons_succ]
          -- 6: slot 151
          refine wpG_take preGr (i := 6) (v := ?_) (by kernel_rfl) (some 151) (by kernel_rfl) rfl (by kernel_rfl) (by kernel_rfl) (by kernel_rfl) (fun _ _ _ h => h) (by rfl) (fun w' hw' => ?_) rfl ?_
          rotate_left
          · try (have hxx := cells4' (heap_gr (Gr.trans HC.out hw') HCE.out); obtain ⟨k0, k1, k2, k3⟩ := hxx)
            go_simp
            with_reducible rfl
          simp only [Act.put, List.setIfInBounds_toArray, List.set_cons_zero, List.set_cons_succ]
          -- 7: slot 152
          refine wpG_take preGr (i := 7) (v := ?_) (by kernel_rfl) (some 152) (by kernel_rfl) rfl (by kernel_rfl) (by kernel_rfl) (by kernel_rfl) (fun _ _ _ h => h) (by rfl) (fun w' hw' => ?_) rfl ?_
          rotate_left
          · try (have hxx := cells4' (heap_gr (Gr.trans HC.out hw') HCE.out); obtain ⟨k0, k1, k2, k3⟩ := hxx)
            go_simp
            with_reducible rfl
          simp only [Act.put, List.setIfInBounds_toArray, List.set_cons_zero, List.set_cons_succ]
          -- 9: slot 154
          refine wpG_take preGr (i := 9) (v := ?_) (by kernel_rfl) (some 154) (by kernel_rfl) rfl (by kernel_rfl) (by kernel_rfl) (by kernel_rfl) (fun _ _ _ h => h) (by rfl) (fun w' hw' => ?_) rfl ?_
          rotate_left
          · try (have hxx := cells4' (heap_gr (Gr.trans HC.out hw') HCE.out); obtain ⟨k0, k1, k2, k3⟩ := hxx)
            go_simp
            with_reducible rfl
          simp only [Act.put, List.setIfInBounds_toArray, List.set_cons_zero, List.set_cons_succ]
          refine wpG_one (i := 8) rfl (by kernel_rfl) (by rfl) ?_
          go_simp
          refine (HF1.out wc HC.out).mono ?_
          rintro e wn ⟨rfl, rfl⟩
          refine ⟨Gr.refl _, ?_⟩
          try simp only [Act.put, List.setIfInBounds_toArray, List.set_cons_zero, List.set_cons_succ]
          refine wpG_one (i := 10) rfl (by kernel_rfl) (by rfl) ?_
          go_simp
          refine (HF2.out wc HC.out).mono ?_
          rintro e wn ⟨rfl, hb⟩
          refine ⟨hb, ?_⟩
          have HC' : Hid (Gr w5 wn) := Gr.trans HC.out hb
          have HGI' : Hid (Gr wi wn) := Gr.trans HGI.out hb
          clear HC HGI hb
          have HC := HC'
          have HGI := HGI'
          clear HC' HGI'
          obtain ⟨wc, hwc⟩ : ∃ x, x = wn := ⟨_, rfl⟩
          subst hwc
          try simp only [Act.put, List.setIfInBounds_toArray, List.set_cons_zero, List.set_cons_succ]
          -- 11: slot 156
          refine wpG_take preGr (i := 11) (v := ?_) (by kernel_rfl) (some 156) (by kernel_rfl) rfl (by kernel_rfl) (by kernel_rfl) (by kernel_rfl) (fun _ _ _ h => h) (by rfl) (fun w' hw' => ?_) rfl ?_
          rotate_left
          · try (have hxx := cells4' (heap_gr (Gr.trans HC.out hw') HCE.out); obtain ⟨k0, k1, k2, k3⟩ := hxx)
            go_simp
            with_reducible rfl
          simp only [Act.put, List.setIfInBounds_toArray, List.set_cons_zero, List.set_cons_succ]
          -- 12: slot 157
          refine wpG_take preGr (i := 12) (v := ?_) (by kernel_rfl) (some 157) (by kernel_rfl) rfl (by kernel_rfl) (by kernel_rfl) (by kernel_rfl) (fun _ _ _ h => h) (by rfl) (fun w' hw' => ?_) rfl ?_
          rotate_left
          · try (have hxx := cells4' (heap_gr (Gr.trans HC.out hw') HCE.out); obtain ⟨k0, k1, k2, k3⟩ := hxx)
            go_simp
            with_reducible rfl
          simp only [Act.put, List.setIfInBounds_toArray, List.set_cons_zero, List.set_cons_succ]
          -- 13: slot 158
          refine wpG_take preGr (i := 13) (v := ?_) (by kernel_rfl) (some 158) (by kernel_rfl) rfl (by kernel_rfl) (by kernel_rfl) (by kernel_rfl) (fun _ _ _ h => h) (by rfl) (fun w' hw' => ?_) rfl ?_
          rotate_left
          · try (have hxx := cells4' (heap_gr (Gr.trans HC.out hw') HCE.out); obtain ⟨k0, k1, k2, k3⟩ := hxx)
            go_simp
            with_reducible rfl
          simp only [Act.put, List.setIfInBounds_toArray, List.set_cons_zero, List.set_cons_succ]
          -- 14: slot 159
          refine wpG_take preGr (i := 14) (v := ?_) (by kernel_rfl) (some 159) (by kernel_rfl) rfl (by kernel_rfl) (by kernel_rfl) (by kernel_rfl) (fun _ _ _ h => h) (by rfl) (fun w' hw' => ?_) rfl ?_
          rotate_left
          · try (have hxx := cells4' (heap_gr (Gr.trans HC.out hw') HCE.out); obtain ⟨k0, k1, k2, k3⟩ := hxx)
            go_simp
            with_reducible rfl
          simp only [Act.put, List.setIfInBounds_toArray, List.set_cons_zero, List.set_cons_succ]
          -- 15: slot 160
          refine wpG_take preGr (i := 15) (v := ?_) (by kernel_rfl) (some 160) (by kernel_rfl) rfl (by kernel_rfl) (by kernel_rfl) (by kernel_rfl) (fun _ _ _ h => h) (by rfl) (fun w' hw' => ?_) rfl ?_
          rotate_left
          · try (have hxx := cells4' (heap_gr (Gr.trans HC.out hw') HCE.out); obtain ⟨k0, k1, k2, k3⟩ := hxx)
            go_simp
            with_reducible rfl
          simp only [Act.put, List.setIfInBounds_toArray, List.set_cons_zero, List.set_cons_succ]
          -- 17: slot 162
          refine wpG_take preGr (i := 17) (v := ?_) (by kernel_rfl) (some 162) (by kernel_rfl) rfl (by kernel_rfl) (by kernel_rfl) (by kernel_rfl) (fun _ _ _ h => h) (by rfl) (fun w' hw' => ?_) rfl ?_
          rotate_left
          · try (have hxx := cells4' (heap_gr (Gr.trans HC.out hw') HCE.out); obtain ⟨k0, k1, k2, k3⟩ := hxx)
            go_simp
            with_reducible rfl
          simp only [Act.put, List.setIfInBounds_toArray, List.set_cons_zero, List.set_cons_succ]
          -- 18: slot 163
          refine wpG_take preGr (i := 18) (v := ?_) (by kernel_rfl) (some 163) (by kernel_rfl) rfl (by kernel_rfl) (by kernel_rfl) (by kernel_rfl) (fun _ _ _ h => h) (by rfl) (fun w' hw' => ?_) rfl ?_
          rotate_left
          · try (have hxx := cells4' (heap_gr (Gr.trans HC.out hw') HCE.out); obtain ⟨k0, k1, k2, k3⟩ := hxx)
            go_simp
            with_reducible rfl
          simp only [Act.put, List.setIfInBounds_toArray, List.set_cons_zero, List.set_cons_succ]
          refine wpG_one (i := 16) rfl (by kernel_rfl) (by rfl) ?_
          go_simp
          refine (HH1.out wc HC.out).mono ?_
          rintro e wn ⟨rfl, rfl⟩
          refine ⟨Gr.refl _, ?_⟩
          try simp only [Act.put, List.setIfInBounds_toArray, List.set_cons_zero, List.set_cons_succ]
          refine wpG_one (i := 19) rfl (by kernel_rfl) (by rfl) ?_
          go_simp
          refine (HH2.out wc HC.out).mono ?_
          rintro e wn ⟨rfl, hb⟩
          refine ⟨hb, ?_⟩
          have HC' : Hid (Gr w5 wn) := Gr.trans HC.out hb
          have HGI' : Hid (Gr wi wn) := Gr.trans HGI.out hb
          clear HC HGI hb
          have HC := HC'
          have HGI := HGI'
          clear HC' HGI'
          obtain ⟨wc, hwc⟩ : ∃ x, x = wn := ⟨_, rfl⟩
          subst hwc
          try simp only [Act.put, List.setIfInBounds_toArray, List.set_cons_zero, List.set_cons_succ]
          -- 20: slot 165
          refine wpG_take preGr (i := 20) (v := ?_) (by kernel_rfl) (some 165) (by kernel_rfl) rfl (by kernel_rfl) (by kernel_rfl) (by kernel_rfl) (fun _ _ _ h => h) (by rfl) (fun w' hw' => ?_) rfl ?_
          rotate_left
          · try (have hxx := cells4' (heap_gr (Gr.trans HC.out hw') HCE.out); obtain ⟨k0, k1, k2, k3⟩ := hxx)
            go_simp
            with_reducible rfl
          simp only [Act.put, List.setIfInBounds_toArray, List.set_cons_zero, List.set_cons_succ]
          -- 21: slot 166
          refine wpG_take preGr (i := 21) (v := ?_) (by kernel_rfl) (some 166) (by kernel_rfl) rfl (by kernel_rfl) (by kernel_rfl) (by kernel_rfl) (fun _ _ _ h => h) (by rfl) (fun w' hw' => ?_) rfl ?_
          rotate_left
          · try (have hxx := cells4' (heap_gr (Gr.trans HC.out hw') HCE.out); obtain ⟨k0, k1, k2, k3⟩ := hxx)
            go_simp
            with_reducible rfl
          simp only [Act.put, List.setIfInBounds_toArray, List.set_cons_zero, List.set_cons_succ]
          refine wpG_done (by kernel_rfl) ?_ _
          have HPE := Lib.hid (HPN.out.gr HC.out)
          have HDE := Lib.hid (HDN.out.gr HC.out)
          clear HC HPN HDN HF1 HF2 HH1 HH2 HL1 HS1 HCE HIR9
          go_wp2_with fail
          go_roundw
          case rel =>
            first
              | exact ⟨i + 1, _, _, T, al', nl', cl', hle, by go_num, rfl, HPE, HDE, HRN⟩
              | ((repeat apply Exists.intro); exact ⟨⟨i + 1, _, _, T, al', nl', cl', hle, by go_num, rfl, HPE, HDE, HRN⟩, rfl⟩)
          case measure => simp [intOf]; omega
        · clear hr4
          have HFK := Lib.hid (fork_any g wc HPC.out.po)
          go_wp2_with fail
          refine HFK.out.mono ?_
          rintro e w2 ⟨g', rfl, m', hp2, hnew, hb2⟩
          have HP2 := Lib.hid (HPC.out.gr hb2)
          have HT := Lib.hid (take_lp HP2.out)
          have HPO := Lib.hid hp2
          have HNW := Lib.hid hnew
          have HB2 := Lib.hid hb2
          clear hp2 hnew hb2 HFK
          go_wp2_with fail
          refine HT.out.mono ?_
          rintro e w5 ⟨rfl, m2, hp5, _, _, ht⟩
          have HLO : Hid (LP U g' m' w2 S) := ⟨HPO.out, fun k hk => Nat.le_trans HPC.out.low.size (HNW.out k hk), HP2.out.low⟩
          have HPN : Hid (LP U g' m' w5 S) := HLO.out.other HP2.out ht (fun k hk hk2 => by have h1 := (HPC.out.po.pm.lt k hk).2; have h2 := HNW.out k hk2; omega)
          have HDN := Lib.hid ((HDC.out.gr HB2.out).go HP2.out ht)
          have HIR9 : Hid (∀ w, Gr w5 w → IR w (.slice a2 n2 c2) l2) := fun w h => Rd.below HIU.out (HPN.out.low.trans (Below.mono h HPN.out.low.size))
          obtain ⟨T, hT⟩ : ∃ T, T = S := ⟨_, rfl⟩
          subst hT
          obtain ⟨al', hal⟩ : ∃ x, x = al := ⟨_, rfl⟩
          obtain ⟨nl', hnl⟩ : ∃ x, x = nl := ⟨_, rfl⟩
          obtain ⟨cl', hcl⟩ : ∃ x, x = cl := ⟨_, rfl⟩
          rw [← hal, ← hnl, ← hcl] at HDN
          have HRN := HRG
          obtain ⟨F, hF⟩ : ∃ F, F = free T := ⟨_, rfl⟩
          obtain ⟨B, hB⟩ : ∃ B, B = has T AD := ⟨_, rfl⟩
          clear hp5 ht HT HPC HDC HP2 HPO HNW HB2 HLO hal hnl hcl HRG

          have HF1 : Hid (∀ w, Gr w5 w → Calls Tryd.prog 24 #[.pointer (some ⟨g', 0, none⟩)] w fun e w' => e = .returned (.int .i64 F) ∧ w = w') := fun w h => by rw [hF]; exact free_lp (HPN.out.gr h)
          have HF2 : Hid (∀ w, Gr w5 w → Calls Tryd.prog 25 #[.agg #[.int .i64 b, .int .i64 (Z : Int), .slice a2 n2 c2, .slice al' nl' cl']] w fun e w' => e = .returned (.int .i64 F) ∧ Below w.heap.size w w') := fun w h => by rw [hF]; exact dfree_ds (HDN.out.gr h) HRN.out HPN.out.po.ok (HIR9.out w h)
          have HH1 : Hid (∀ w, Gr w5 w → Calls Tryd.prog 26 #[.pointer (some ⟨g', 0, none⟩), .int .i64 AD] w fun e w' => e = .returned (.bool B) ∧ w = w') := fun w h => by rw [hB]; exact has_lp (HPN.out.gr h) AD HADL.out
          have HH2 : Hid (∀ w, Gr w5 w → Calls Tryd.prog 27 #[.agg #[.int .i64 b, .int .i64 (Z : Int), .slice a2 n2 c2, .slice al' nl' cl'], .int .i64 AD] w fun e w' => e = .returned (.bool B) ∧ Below w.heap.size w w') := fun w h => by rw [hB]; exact dhas_ds (HDN.out.gr h) HRN.out HPN.out.po.ok (HIR9.out w h) AD HADL.out
          have HL1 : Hid (∀ w, Gr w5 w → Calls Tryd.prog 23 #[.pointer (some ⟨g', 0, none⟩)] w fun e w' => ∃ A C, e = .returned (.slice A nl' C) ∧ IR w' (.slice A nl' C) T.L ∧ Below w.heap.size w w') := fun w h => by
            refine (leased_lp (HPN.out.gr h)).mono ?_
            rintro e w' ⟨v, rfl, ho, hb, _⟩
            obtain ⟨A, C, rfl, _, _⟩ := (own_rd ho).shape
            have hl := HDN.out.len
            exact ⟨A, C, by rw [hl], by rw [hl]; exact own_rd ho, hb⟩
          have HS1 : Hid (∀ w A C, Gr w5 w → IR w (.slice A nl' C) T.L → Calls Tryd.prog 22 #[.slice A nl' C, .slice al' nl' cl'] w fun e w' => e = .returned (.bool true) ∧ Below w.heap.size w w') := fun w A C h hi => same_rows w hi (HDN.out.gr h).ir (by have := OkP.few HPN.out.po.ok; omega)
          have q1 : ((F : Int) != F) = false := by simp
          have q2 : (B != B) = false := by simp
          have HCE := Lib.hid HDN.out.cell
          clear hF hB
          go_upto_region 37 with fail
          have HC : Hid (Gr w5 w5.drew) := Gr.drew w5
          refine wp_region_G 22 Gr (by kernel_rfl) ?_
          generalize w5.drew = wc at HC ⊢
          -- 0: slot 145
          refine wpG_take preGr (i := 0) (v := ?_) (by kernel_rfl) (some 145) (by kernel_rfl) rfl (by kernel_rfl) (by kernel_rfl) (by kernel_rfl) (fun _ _ _ h => h) (by rfl) (fun w' hw' => ?_) rfl ?_
          rotate_left
          · try (have hxx := cells4' (heap_gr (Gr.trans HC.out hw') HCE.out); obtain ⟨k0, k1, k2, k3⟩ := hxx)
            go_simp
            with_reducible rfl
          simp only [Act.put, List.setIfInBounds_toArray, List.set_cons_zero, List.set_cons_succ]
          -- 2: slot 147
          refine wpG_take preGr (i := 2) (v := ?_) (by kernel_rfl) (some 147) (by kernel_rfl) rfl (by kernel_rfl) (by kernel_rfl) (by kernel_rfl) (fun _ _ _ h => h) (by rfl) (fun w' hw' => ?_) rfl ?_
          rotate_left
          · try (have hxx := cells4' (heap_gr (Gr.trans HC.out hw') HCE.out); obtain ⟨k0, k1, k2, k3⟩ := hxx)
            go_simp
            with_reducible rfl
          simp only [Act.put, List.setIfInBounds_toArray, List.set_cons_zero, List.set_cons_succ]
          -- 3: slot 148
          refine wpG_take preGr (i := 3) (v := ?_) (by kernel_rfl) (some 148) (by kernel_rfl) rfl (by kernel_rfl) (by kernel_rfl) (by kernel_rfl) (fun _ _ _ h => h) (by rfl) (fun w' hw' => ?_) rfl ?_
          rotate_left
          · try (have hxx := cells4' (heap_gr (Gr.trans HC.out hw') HCE.out); obtain ⟨k0, k1, k2, k3⟩ := hxx)
            go_simp
            with_reducible rfl
          simp only [Act.put, List.setIfInBounds_toArray, List.set_cons_zero, List.set_cons_succ]
          refine wpG_one (i := 1) rfl (by kernel_rfl) (by rfl) ?_
          go_simp
          refine (HL1.out wc HC.out).mono ?_
          rintro e wn ⟨A6, C6, rfl, hi6, hb⟩
          refine ⟨hb, ?_⟩
          have HI6 := Lib.hid hi6
          have HC' : Hid (Gr w5 wn) := Gr.trans HC.out hb
          obtain ⟨wi, hwi⟩ : ∃ x, x = wn := ⟨_, rfl⟩
          rw [← hwi] at HI6
          have HGI : Hid (Gr wi wn) := by show Gr _ _; rw [hwi]; exact Gr.refl _
          clear HC hb hi6 hwi
          have HC := HC'
          clear HC'
          obtain ⟨wc, hwc⟩ : ∃ x, x = wn := ⟨_, rfl⟩
          subst hwc
          try simp only [Act.put, List.setIfInBounds_toArray, List.set_cons_zero, List.set_cons_succ]
          refine wpG_one (i := 4) rfl (by kernel_rfl) (by rfl) ?_
          go_simp
          refine (HS1.out wc A6 C6 HC.out (Rd.below HI6.out HGI.out)).mono ?_
          rintro e wn ⟨rfl, hb⟩
          refine ⟨hb, ?_⟩
          have HC' : Hid (Gr w5 wn) := Gr.trans HC.out hb
          have HGI' : Hid (Gr wi wn) := Gr.trans HGI.out hb
          clear HC HGI hb
          have HC := HC'
          have HGI := HGI'
          clear HC' HGI'
          obtain ⟨wc, hwc⟩ : ∃ x, x = wn := ⟨_, rfl⟩
          subst hwc
          try simp only [Act.put, List.setIfInBounds_toArray, List.set_cons_zero, List.set_cons_succ]
          -- 5: slot 150
          refine wpG_take preGr (i := 5) (v := ?_) (by kernel_rfl) (some 150) (by kernel_rfl) rfl (by kernel_rfl) (by kernel_rfl) (by kernel_rfl) (fun _ _ _ h => h) (by rfl) (fun w' hw' => ?_) rfl ?_
          rotate_left
          · try (have hxx := cells4' (heap_gr (Gr.trans HC.out hw') HCE.out); obtain ⟨k0, k1, k2, k3⟩ := hxx)
            go_simp
            with_reducible rfl
          simp only [Act.put, List.setIfInBounds_toArray, List.set_cons_zero, List.set_cons_succ]
          -- 6: slot 151
          refine wpG_take preGr (i := 6) (v := ?_) (by kernel_rfl) (some 151) (by kernel_rfl) rfl (by kernel_rfl) (by kernel_rfl) (by kernel_rfl) (fun _ _ _ h => h) (by rfl) (fun w' hw' => ?_) rfl ?_
          rotate_left
          · try (have hxx := cells4' (heap_gr (Gr.trans HC.out hw') HCE.out); obtain ⟨k0, k1, k2, k3⟩ := hxx)
            go_simp
            with_reducible rfl
          simp only [Act.put, List.setIfInBounds_toArray, List.set_cons_zero, List.set_cons_succ]
          -- 7: slot 152
          refine wpG_take preGr (i := 7) (v := ?_) (by kernel_rfl) (some 152) (by kernel_rfl) rfl (by kernel_rfl) (by kernel_rfl) (by kernel_rfl) (fun _ _ _ h => h) (by rfl) (fun w' hw' => ?_) rfl ?_
          rotate_left
          · try (have hxx := cells4' (heap_gr (Gr.trans HC.out hw') HCE.out); obtain ⟨k0, k1, k2, k3⟩ := hxx)
            go_simp
            with_reducible rfl
          simp only [Act.put, List.setIfInBounds_toArray, List.set_cons_zero, List.set_cons_succ]
          -- 9: slot 154
          refine wpG_take preGr (i := 9) (v := ?_) (by kernel_rfl) (some 154) (by kernel_rfl) rfl (by kernel_rfl) (by kernel_rfl) (by kernel_rfl) (fun _ _ _ h => h) (by rfl) (fun w' hw' => ?_) rfl ?_
          rotate_left
          · try (have hxx := cells4' (heap_gr (Gr.trans HC.out hw') HCE.out); obtain ⟨k0, k1, k2, k3⟩ := hxx)
            go_simp
            with_reducible rfl
          simp only [Act.put, List.setIfInBounds_toArray, List.set_cons_zero, List.set_cons_succ]
          refine wpG_one (i := 8) rfl (by kernel_rfl) (by rfl) ?_
          go_simp
          refine (HF1.out wc HC.out).mono ?_
          rintro e wn ⟨rfl, rfl⟩
          refine ⟨Gr.refl _, ?_⟩
          try simp only [Act.put, List.setIfInBounds_toArray, List.set_cons_zero, List.set_cons_succ]
          refine wpG_one (i := 10) rfl (by kernel_rfl) (by rfl) ?_
          go_simp
          refine (HF2.out wc HC.out).mono ?_
          rintro e wn ⟨rfl, hb⟩
          refine ⟨hb, ?_⟩
          have HC' : Hid (Gr w5 wn) := Gr.trans HC.out hb
          have HGI' : Hid (Gr wi wn) := Gr.trans HGI.out hb
          clear HC HGI hb
          have HC := HC'
          have HGI := HGI'
          clear HC' HGI'
          obtain ⟨wc, hwc⟩ : ∃ x, x = wn := ⟨_, rfl⟩
          subst hwc
          try simp only [Act.put, List.setIfInBounds_toArray, List.set_cons_zero, List.set_cons_succ]
          -- 11: slot 156
          refine wpG_take preGr (i := 11) (v := ?_) (by kernel_rfl) (some 156) (by kernel_rfl) rfl (by kernel_rfl) (by kernel_rfl) (by kernel_rfl) (fun _ _ _ h => h) (by rfl) (fun w' hw' => ?_) rfl ?_
          rotate_left
          · try (have hxx := cells4' (heap_gr (Gr.trans HC.out hw') HCE.out); obtain ⟨k0, k1, k2, k3⟩ := hxx)
            go_simp
            with_reducible rfl
          simp only [Act.put, List.setIfInBounds_toArray, List.set_cons_zero, List.set_cons_succ]
          -- 12: slot 157
          refine wpG_take preGr (i := 12) (v := ?_) (by kernel_rfl) (some 157) (by kernel_rfl) rfl (by kernel_rfl) (by kernel_rfl) (by kernel_rfl) (fun _ _ _ h => h) (by rfl) (fun w' hw' => ?_) rfl ?_
          rotate_left
          · try (have hxx := cells4' (heap_gr (Gr.trans HC.out hw') HCE.out); obtain ⟨k0, k1, k2, k3⟩ := hxx)
            go_simp
            with_reducible rfl
          simp only [Act.put, List.setIfInBounds_toArray, List.set_cons_zero, List.set_cons_succ]
          -- 13: slot 158
          refine wpG_take preGr (i := 13) (v := ?_) (by kernel_rfl) (some 158) (by kernel_rfl) rfl (by kernel_rfl) (by kernel_rfl) (by kernel_rfl) (fun _ _ _ h => h) (by rfl) (fun w' hw' => ?_) rfl ?_
          rotate_left
          · try (have hxx := cells4' (heap_gr (Gr.trans HC.out hw') HCE.out); obtain ⟨k0, k1, k2, k3⟩ := hxx)
            go_simp
            with_reducible rfl
          simp only [Act.put, List.setIfInBounds_toArray, List.set_cons_zero, List.set_cons_succ]
          -- 14: slot 159
          refine wpG_take preGr (i := 14) (v := ?_) (by kernel_rfl) (some 159) (by kernel_rfl) rfl (by kernel_rfl) (by kernel_rfl) (by kernel_rfl) (fun _ _ _ h => h) (by rfl) (fun w' hw' => ?_) rfl ?_
          rotate_left
          · try (have hxx := cells4' (heap_gr (Gr.trans HC.out hw') HCE.out); obtain ⟨k0, k1, k2, k3⟩ := hxx)
            go_simp
            with_reducible rfl
          simp only [Act.put, List.setIfInBounds_toArray, List.set_cons_zero, List.set_cons_succ]
          -- 15: slot 160
          refine wpG_take preGr (i := 15) (v := ?_) (by kernel_rfl) (some 160) (by kernel_rfl) rfl (by kernel_rfl) (by kernel_rfl) (by kernel_rfl) (fun _ _ _ h => h) (by rfl) (fun w' hw' => ?_) rfl ?_
          rotate_left
          · try (have hxx := cells4' (heap_gr (Gr.trans HC.out hw') HCE.out); obtain ⟨k0, k1, k2, k3⟩ := hxx)
            go_simp
            with_reducible rfl
          simp only [Act.put, List.setIfInBounds_toArray, List.set_cons_zero, List.set_cons_succ]
          -- 17: slot 162
          refine wpG_take preGr (i := 17) (v := ?_) (by kernel_rfl) (some 162) (by kernel_rfl) rfl (by kernel_rfl) (by kernel_rfl) (by kernel_rfl) (fun _ _ _ h => h) (by rfl) (fun w' hw' => ?_) rfl ?_
          rotate_left
          · try (have hxx := cells4' (heap_gr (Gr.trans HC.out hw') HCE.out); obtain ⟨k0, k1, k2, k3⟩ := hxx)
            go_simp
            with_reducible rfl
          simp only [Act.put, List.setIfInBounds_toArray, List.set_cons_zero, List.set_cons_succ]
          -- 18: slot 163
          refine wpG_take preGr (i := 18) (v := ?_) (by kernel_rfl) (some 163) (by kernel_rfl) rfl (by kernel_rfl) (by kernel_rfl) (by kernel_rfl) (fun _ _ _ h => h) (by rfl) (fun w' hw' => ?_) rfl ?_
          rotate_left
          · try (have hxx := cells4' (heap_gr (Gr.trans HC.out hw') HCE.out); obtain ⟨k0, k1, k2, k3⟩ := hxx)
            go_simp
            with_reducible rfl
          simp only [Act.put, List.setIfInBounds_toArray, List.set_cons_zero, List.set_cons_succ]
          refine wpG_one (i := 16) rfl (by kernel_rfl) (by rfl) ?_
          go_simp
          refine (HH1.out wc HC.out).mono ?_
          rintro e wn ⟨rfl, rfl⟩
          refine ⟨Gr.refl _, ?_⟩
          try simp only [Act.put, List.setIfInBounds_toArray, List.set_cons_zero, List.set_cons_succ]
          refine wpG_one (i := 19) rfl (by kernel_rfl) (by rfl) ?_
          go_simp
          refine (HH2.out wc HC.out).mono ?_
          rintro e wn ⟨rfl, hb⟩
          refine ⟨hb, ?_⟩
          have HC' : Hid (Gr w5 wn) := Gr.trans HC.out hb
          have HGI' : Hid (Gr wi wn) := Gr.trans HGI.out hb
          clear HC HGI hb
          have HC := HC'
          have HGI := HGI'
          clear HC' HGI'
          obtain ⟨wc, hwc⟩ : ∃ x, x = wn := ⟨_, rfl⟩
          subst hwc
          try simp only [Act.put, List.setIfInBounds_toArray, List.set_cons_zero, List.set_cons_succ]
          -- 20: slot 165
          refine wpG_take preGr (i := 20) (v := ?_) (by kernel_rfl) (some 165) (by kernel_rfl) rfl (by kernel_rfl) (by kernel_rfl) (by kernel_rfl) (fun _ _ _ h => h) (by rfl) (fun w' hw' => ?_) rfl ?_
          rotate_left
          · try (have hxx := cells4' (heap_gr (Gr.trans HC.out hw') HCE.out); obtain ⟨k0, k1, k2, k3⟩ := hxx)
            go_simp
            with_reducible rfl
          simp only [Act.put, List.setIfInBounds_toArray, List.set_cons_zero, List.set_cons_succ]
          -- 21: slot 166
          refine wpG_take preGr (i := 21) (v := ?_) (by kernel_rfl) (some 166) (by kernel_rfl) rfl (by kernel_rfl) (by kernel_rfl) (by kernel_rfl) (fun _ _ _ h => h) (by rfl) (fun w' hw' => ?_) rfl ?_
          rotate_left
          · try (have hxx := cells4' (heap_gr (Gr.trans HC.out hw') HCE.out); obtain ⟨k0, k1, k2, k3⟩ := hxx)
            go_simp
            with_reducible rfl
          simp only [Act.put, List.setIfInBounds_toArray, List.set_cons_zero, List.set_cons_succ]
          refine wpG_done (by kernel_rfl) ?_ _
          have HPE := Lib.hid (HPN.out.gr HC.out)
          have HDE := Lib.hid (HDN.out.gr HC.out)
          clear HC HPN HDN HF1 HF2 HH1 HH2 HL1 HS1 HCE HIR9
          go_wp2_with fail
          go_roundw
          case rel =>
            first
              | exact ⟨i + 1, _, _, T, al', nl', cl', hle, by go_num, rfl, HPE, HDE, HRN⟩
              | ((repeat apply Exists.intro); exact ⟨⟨i + 1, _, _, T, al', nl', cl', hle, by go_num, rfl, HPE, HDE, HRN⟩, rfl⟩)
          case measure => simp [intOf]; omega
      · by_cases hlt1 : i < n1
        · have hlt2 : ¬ i < 60 := fun h => hlt ⟨hlt1, h⟩
          have HLAST : Hid (Below W.heap.size W wr) := HBU.out.trans (Below.mono HP.out.low HBU.out.size)
          clear hlt
          go_wp2
          go_ret
          exact ⟨rfl, HLAST.out⟩
        · have HLAST : Hid (Below W.heap.size W wr) := HBU.out.trans (Below.mono HP.out.low HBU.out.size)
          clear hlt
          go_wp2
          go_ret
          exact ⟨rfl, HLAST.out⟩

theorem own : ownKnob Tryd.prog.godebug = none := by kernel_rfl
theorem laidOut : laidOutB Tryd.prog = true := by kernel_rfl
theorem door_met (os : Os) (args : Array Value) : laidMetH Tryd.prog Rows.poolRunsRow.laid ((World.doorLaid Tryd.prog 400 os).forCall (fun _ _ => 0) ⟨#[], args, []⟩).memory :=
  laidMetH_of_parts3 (fuel := 8) (laidMet_of_run' 8 (by kernel_rfl) (by kernel_rfl)) (by kernel_rfl) (by kernel_rfl)
set_option maxRecDepth 100000 in
theorem lifted (os : Os) (started : os.Started) (H : Type) (enc : TypeId × Value → H) :
    ReturnsInHanded {} Tryd.checked os 3 .any (fun w args => (Rows.poolRunsSpec.pre enc Tryd.prog Tryd.f3 [] false w args ∧ laidMetH Tryd.prog Rows.poolRunsRow.laid w) ∧ sizedMet enc Tryd.prog Tryd.f3 (OpenSpec.ofChange Rows.poolRunsSpec) false w args) (Rows.poolRunsSpec.post enc Tryd.prog Tryd.f3 false true false false) := by
  refine returnsInHanded_of_change_and (C := Tryd.checked) (X := fun w _ => laidMetH Tryd.prog Rows.poolRunsRow.laid w) (fun _ _ _ hh h => h.of_heap hh) own started (by kernel_rfl) Tryd.func3
    (ChangeSpec.witness_shaped (enc := enc) (C := Tryd.checked) (os := os) (X := fun w _ => laidMetH Tryd.prog Rows.poolRunsRow.laid w) false (World.doorLaid Tryd.prog 400 os) #[.agg #[.int .i64 0, .int .i64 0, .slice none 0 0], .slice none 0 0] 8 rfl (World.shaped_of_RefB (by kernel_rfl) (by kernel_rfl)) (by kernel_rfl) (by kernel_rfl) (by kernel_rfl) (door_met os _)) ?_
  intro W base args ds gs before hval0 hW _ _ hL _
  have hval : ∀ (j : Nat) t v, Tryd.f3.params[j]? = some t → args[j]? = some v → Value.okWide Tryd.prog W .any base t v := hval0
  have hW' := hW
  obtain ⟨p, q, hA0, hV, rfl, hfz, hnd⟩ := hW
  have hA : DataW.TrodAll enc Tryd.prog W 0 (fun _ => true) true Tryd.f3.params.toList args.toList ds p := hA0
  rw [Tryd.params3] at hA hval
  obtain ⟨v0, vs0, d0, ds0, p0, q0, hargs, rfl, rfl, h0, r0⟩ := trodAll_cons hA
  obtain ⟨v1, vs1, d1, ds1, p1, q1, rfl, rfl, rfl, h1, r1⟩ := trodAll_cons r0
  obtain ⟨rfl, rfl, rfl⟩ := trodAll_nil r1
  obtain rfl : args = #[v0, v1] := by cases args; simp_all
  obtain ⟨rfl, rfl⟩ := trodVars_none hV
  have k0 := h0
  have lt0 : ∀ x ∈ p0, x.block < W.heap.size := by obtain ⟨m, hm⟩ := k0; exact DataW.trod_lt m _ _ _ hm
  obtain ⟨x0, y0, a0, n0, c0, l0, rfl, wx0, wy0, hn0, b0⟩ := open_range Tryd.underlying24 ⟨rfl, rfl, rfl⟩ Tryd.underlying3 Tryd.underlying3 Tryd.underlying22 Tryd.underlying3 ⟨by kernel_rfl, by kernel_rfl, by kernel_rfl, by kernel_rfl, by kernel_rfl⟩ (hval 0 24 v0 rfl rfl) h0
  have k1 := h1
  have lt1 : ∀ x ∈ p1, x.block < W.heap.size := by obtain ⟨m, hm⟩ := k1; exact DataW.trod_lt m _ _ _ hm
  obtain ⟨a1, n1, c1, qs1, rfl, b1⟩ := open_pops Tryd.underlying25 Tryd.underlying38 ⟨rfl, rfl, rfl⟩ Tryd.underlying5 Tryd.underlying3 Tryd.underlying4 ⟨by kernel_rfl, by kernel_rfl, by kernel_rfl, by kernel_rfl⟩ (hval 1 25 v1 rfl rfl) h1
  clear hA0 hval0
  refine (walk W (of_laid hL) x0 y0 a0 n0 c0 l0 wx0 wy0 hn0 b0 a1 n1 c1 qs1 b1).mono fun e W' ⟨he, bel⟩ => ?_
  subst he
  exact ⟨_, rfl, _, _, _, [], _, [], hW', trodAll_mk1 (shut_bool Tryd.underlying4 _), (trodAll_cons_mk (Below.trod laidOut (by kernel_rfl) (of_decide_eq_true (by kernel_rfl)) k0 bel lt0) (trodAll_cons_mk (Below.trod laidOut (by kernel_rfl) (of_decide_eq_true (by kernel_rfl)) k1 bel lt1) trodAll_mk0)), rfl, bel.frame _, fun h => by cases h⟩
theorem over : Rows.poolRunsRow.holds Tryd.pinned (OpenSpec.ofChange Rows.poolRunsSpec) :=
  OpenClaim.holds_of_wide 3 Tryd.f3 rfl rfl rfl rfl rfl rfl rfl ⟨rfl, rfl, rfl, rfl, rfl⟩ rfl rfl rfl rfl rfl (by kernel_rfl) Tryd.func3 (by kernel_rfl)
    (of_decide_eq_true (by kernel_rfl)) (by unfold Func.isWrapper; first | (rw [if_pos (by decide +kernel)]; kernel_rfl) | (rw [if_neg (by decide +kernel)]; exact ⟨rfl, rfl⟩))
    (fun os started H enc _ => lifted os started H enc)
/-- The statement: the tied card. -/
theorem proved : Rows.PoolRunsCardSaid :=
  Claim7.holds_tied_plain_at .later [] [.data] true (true, "e874124b9b968c9656ea65cff0e58373288b28edbace69890e6b772b92dc920d") false over (fun _ h => by cases h) (by kernel_rfl) (fun _ h => by cases h) poolRuns_row_tie rfl ⟨rfl, rfl⟩ (by kernel_rfl) rfl
    (fun f fn hf hfn => by
      obtain rfl : f = 3 := Option.some.inj ((show Tryd.prog.funcNamed "concierge/conciergelaw12.PoolRuns" = some 3 by kernel_rfl).symm.trans hf) |>.symm
      obtain rfl : fn = Tryd.f3 := (Option.some.inj (Tryd.func3.symm.trans hfn)).symm
      exact ⟨by kernel_rfl, fun j t ht => by
        rw [Tryd.params3] at ht
        have hm : t ∈ [24, 25] := by simpa using Array.mem_of_getElem? ht
        have hall : ([24, 25].all fun u => !Tryd.prog.wantsStandIn u) = true := by kernel_rfl
        exact (show Tryd.prog.wantsStandIn t = false by simpa using List.all_eq_true.1 hall t hm)⟩)
    (by kernel_rfl)
end Go.Proofs.YtoemghinolekgaaDoor.poolRuns
