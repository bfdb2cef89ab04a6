/-
  For every packet (its payload's first 1600 bytes) and byte: what pppoe.Encode, pppoe.Decode and pppoe.Client tell is new memory: writing there turns nothing else (conciergelaw06.PppoeOwn answers true). No conditions.
-/
import Derived.Test.YtcpeglljcipcbaaPpS
import Derived.Test.YtcpeglljcipcbaaPpC
import Derived.Test.YtcpeglljcipcbaaPpN
import Derived.Test.YtcpeglljcipcbaaOpenP
import Derived.ProofKit
import Derived.OpenShut
import Derived.ChangeOld
namespace Go.Proofs.Ytcpeglljcipcbaa.pppoeOwn
open Go.ChangeShapes Go.WideShapes Go.ChangeAt Go.RowKit
set_option linter.unusedVariables false
set_option linter.unusedSimpArgs false

/-- Block g alone has turned, and v (n bytes) can still be written. -/
def FI (w wr : World) (g base : Nat) (v : Value) (n : Nat) : Prop := Only g w wr ∧ ∃ ys : List UInt8, ys.length = n ∧ OwnB wr base 5 v ys
theorem FI.next {w wr : World} {g base n c i : Nat} {x : UInt8} (h : FI w wr g base (.slice (some ⟨g, 0, none⟩) n c) n) (hi : i < n) : FI w (wr.setCell ⟨g, i, none⟩ (.int .u8 (x.toNat : Int))) g base (.slice (some ⟨g, 0, none⟩) n c) n := by
  obtain ⟨ho, ys, hy, hown⟩ := h
  subst hy
  refine ⟨ho.trans (Only.setCell wr i _), ys.set i x, by simp, ?_⟩
  have := (World.ownsRow.stored hown i (.int .u8 (x.toNat : Int))).1
  unfold OwnB
  rw [List.length_set, List.map_set]
  exact this
theorem FI.at {w wr : World} {g base n c i : Nat} (h : FI w wr g base (.slice (some ⟨g, 0, none⟩) n c) n) (hi : i < n) : (∃ u, wr.cell? ⟨g, i, none⟩ = some u) ∧ wr.frozen? ⟨g, i, none⟩ = false := by
  obtain ⟨ho, ys, hy, hown⟩ := h
  subst hy
  refine ⟨?_, World.ownsRow.frozenAt hown _⟩
  rw [World.ownsRow.cellAt hown _ (by simp; omega)]
  exact ⟨_, List.getElem?_eq_getElem (by simp; omega)⟩
/-- The block that is written, if any. -/
theorem pick {w' w : World} {base : Nat} {a : Option Addr} {n c : Nat} {l : List UInt8} (h : OwnB w' base 5 (.slice a n c) l) (hl : l.length = n) : ∃ g, (n = 0 ∧ base + w.heap.size ≤ g ∨ a = some ⟨g, 0, none⟩ ∧ g < w'.heap.size) ∧ base ≤ g := by
  by_cases h0 : n = 0
  · exact ⟨base + w.heap.size, .inl ⟨h0, Nat.le_refl _⟩, Nat.le_add_right _ _⟩
  · obtain ⟨h1, ⟨_, h2⟩ | ⟨g, cap, cur, h2, h3, h4, _⟩⟩ := h
    · omega
    · simp only [Value.slice.injEq] at h2
      exact ⟨g, .inr ⟨h2.1, (Array.getElem?_eq_some_iff.1 h4).1⟩, h3⟩
theorem own_len {w : World} {base : Nat} {a : Option Addr} {n c : Nat} {l : List UInt8} (h : OwnB w base 5 (.slice a n c) l) : l.length = n := by
  obtain ⟨_, _, _, e1, h1, _, _⟩ := h.bs.sl
  simp only [Value.slice.injEq] at e1
  rw [e1.2.1, h1]

theorem own_max {w : World} {base : Nat} {a : Option Addr} {n c : Nat} {l : List UInt8} (h : OwnB w base 5 (.slice a n c) l) : n ≤ 9223372036854775807 := by
  obtain ⟨_, _, _, e1, _, h2, h3⟩ := h.bs.sl
  simp only [Value.slice.injEq] at e1
  obtain ⟨_, rfl, rfl⟩ := e1
  unfold maxLen at h3
  omega

set_option maxRecDepth 100000 in
set_option maxHeartbeats 8000000 in
theorem walk (W : World) (C0 S0 : Int) (a0 : Option Addr) (n0 c0 : Nat) (l0 : List UInt8) (hn0 : l0.length = n0) (b0 : Bs W (.slice a0 n0 c0) l0) (q0 : Int) (wq : (Lit.int .u8 q0).wf = true) :
    Calls Try.prog 8 #[.agg #[.int .i64 C0, .int .i64 S0, .slice a0 n0 c0], .int .u8 q0] W fun e w' => e = .returned (.bool true) ∧ Below W.heap.size W w' := by
  obtain ⟨z, rfl⟩ := u8_of_wf wq
  obtain ⟨m0, x0, hm0, hx0, u0, hc0⟩ := cut6_in hn0 b0
  have HC0 := Lib.hid hc0
  have HX0 := Lib.hid hx0
  have HU0 := Lib.hid u0
  have HB1 : Hid (Below W.heap.size W (W.alloc (.cells #[.int .i64 C0, .int .i64 S0, .slice a0 m0 c0] 24))) := (Below.refl _ _).alloc (Nat.le_refl _) _
  have HG1 : Hid ((W.alloc (.cells #[.int .i64 C0, .int .i64 S0, .slice a0 m0 c0] 24)).heap[W.heap.size]? = some (.cells #[.int .i64 C0, .int .i64 S0, .slice a0 m0 c0] 24)) := heap_alloc_last _ _
  have hsz1 : (W.alloc (.cells #[.int .i64 C0, .int .i64 S0, .slice a0 m0 c0] 24)).heap.size = W.heap.size + 1 := World.size_alloc _ _
  have HSZ1 := Lib.hid hsz1
  have AW := Lib.hid awake_any
  have hz8 := UInt8.toNat_lt z
  have hst := run_string_of (P := Try.prog) 22 9 5 Try.underlying22 Try.underlying5 Try.underlying9 (HU0.out.below HB1.out)
  have EN := Lib.hid (pencode_any C0 S0 a0 m0 c0 x0 HX0.out _ (HU0.out.below HB1.out) (by omega))
  clear hn0 b0 u0 hc0 hx0 wq hsz1
  go_enter Try.func8, Try.ntmps8
  go_wp2_with fail
  refine (HC0.out _).mono ?_
  rintro e w' ⟨rfl, rfl⟩
  go_wp2_with fail
  refine EN.out.mono ?_
  rintro e w2 ⟨v2, rfl, hown2, hb2⟩
  rw [HSZ1.out] at hown2
  obtain ⟨k, hk⟩ : ∃ k, k = pencE ⟨C0, S0, x0⟩ := ⟨_, rfl⟩
  rw [← hk]
  have HKK := Lib.hid hk
  have HB2 := Lib.hid (HB1.out.trans (hb2.mono HB1.out.size))
  have HG2 := Lib.hid (heap_below HG1.out hb2)
  obtain ⟨A2, L2, C2, ev, hL2, hz1, hz2⟩ := hown2.bs.sl
  clear hz1 hz2
  subst ev
  have HL2 := Lib.hid hL2
  have HO2 := Lib.hid hown2
  have hL2b := own_max hown2
  have hs2 : W.heap.size + 1 ≤ w2.heap.size := by rw [← HSZ1.out]; exact hb2.size
  clear hown2 hb2 hk hL2 hst EN HG1 HB1 HSZ1
  by_cases hk0 : k = 0
  · have HPB : Hid (pencB ⟨C0, S0, x0⟩ = wireP ⟨C0, S0, x0⟩) := pencB_yes (by rw [← HKK.out]; exact hk0)
    have HPW : Hid (pdec (wireP ⟨C0, S0, x0⟩) = (⟨C0, S0, x0⟩, 0)) := by
      have := pdec_wire (p := ⟨C0, S0, x0⟩) (by rw [← HKK.out]; exact hk0) []
      rwa [List.append_nil] at this
    obtain ⟨y, hy⟩ : ∃ y, y = pencB ⟨C0, S0, x0⟩ := ⟨_, rfl⟩
    have HY := Lib.hid hy
    rw [← hy] at HO2 HL2
    have hLb : L2 ≤ 1606 := by
      have h1 := HL2.out
      rw [hy, HPB.out, wireP_length] at h1
      have h2 : x0.length = m0 := HX0.out
      have h3 : 6 + x0.length = L2 := h1
      omega
    have D1 := Lib.hid (pdecode_any A2 L2 C2 y HL2.out w2 HO2.out.bs (by omega))
    rw [show pdec y = (⟨C0, S0, x0⟩, 0) by rw [hy, HPB.out]; exact HPW.out] at D1
    subst hk0
    clear hy
    go_wp2_with fail
    refine D1.out.mono ?_
    rintro e w3 ⟨A3, L3, C3, rfl, hown3, hb3⟩
    have hE3 : Below w3.heap.size w3 (w3.alloc (.cells #[.int .i64 C0, .int .i64 S0, .slice A3 L3 C3] 24)) := (Below.refl _ _).alloc (Nat.le_refl _) _
    have hB3 := hb3.trans (hE3.mono hb3.size)
    obtain ⟨wa, hwa⟩ : ∃ x, x = w3.alloc (.cells #[.int .i64 C0, .int .i64 S0, .slice A3 L3 C3] 24) := ⟨_, rfl⟩
    have s1 := run_string_of (P := Try.prog) 22 9 5 Try.underlying22 Try.underlying5 Try.underlying9 (HO2.out.bs.below hB3)
    have HGQ : Hid (wa.heap[w3.heap.size]? = some (.cells #[.int .i64 C0, .int .i64 S0, .slice A3 L3 C3] 24 (0, 0))) := by show _ = _; rw [hwa]; exact heap_alloc_last _ _
    have hsa : wa.heap.size = w3.heap.size + 1 := by rw [hwa]; exact World.size_alloc _ _
    have hs3 : w2.heap.size ≤ w3.heap.size := hb3.size
    have HBa : Hid (Below W.heap.size W wa) := by show Below _ _ _; rw [hwa]; exact HB2.out.trans (hB3.mono HB2.out.size)
    have HGa : Hid (wa.heap[W.heap.size]? = some (.cells #[.int .i64 C0, .int .i64 S0, .slice a0 m0 c0] 24)) := by show _ = _; rw [hwa]; exact heap_below HG2.out hB3
    have HOa : Hid (OwnB wa (W.heap.size + 1) 5 (.slice A2 L2 C2) y) := by show OwnB _ _ _ _ _; rw [hwa]; exact HO2.out.below hB3
    have HLT : Hid (∀ k, (Value.slice A2 L2 C2).ownBlock = some k → k < w2.heap.size) := fun k hk => (World.ownsRow.lt HO2.out k hk).2
    have hL3 := own_len hown3
    have hL3b := own_max hown3
    have hL3' : L3 = m0 := by rw [← hL3]; exact HX0.out
    obtain ⟨g3, hg3, hg3b⟩ := pick (w := wa) hown3 hL3
    have HA3 := Lib.hid hg3
    have hgn : g3 ≠ w3.heap.size := by rcases hg3 with ⟨_, h⟩ | ⟨_, h⟩ <;> omega
    have HF1 : Hid (FI wa wa g3 w2.heap.size (.slice A3 L3 C3) L3) := ⟨Only.refl _ _, x0, hL3, by rw [hwa]; exact hown3.below hE3⟩
    have HWA := Lib.hid hwa
    clear hown3 hb3 hE3 hB3 D1 hwa hg3 hL3 hL3'
    go_wp2
    rw [← HWA.out]
    clear HWA s1
    go_loopw [11] (fun iv wr => ∃ i : Nat, i ≤ L3 ∧ iv = .int .i64 (i : Int) ∧ Hid (FI wa wr g3 w2.heap.size (.slice A3 L3 C3) L3)) (fun iv _ => L3 - (intOf iv).toNat)
    case atStart => exact ⟨0, Nat.zero_le _, rfl, HF1⟩
    case round =>
      clear HF1
      obtain ⟨i, him, rfl, HF⟩ := hrel
      have ho : Only g3 wa wr := HF.out.1
      have rq : wr.heap[w3.heap.size]? = some (.cells #[.int .i64 C0, .int .i64 S0, .slice A3 L3 C3] 24 (0, 0)) := by rw [ho.heap _ (by omega) (by omega)]; exact HGQ.out
      have d2 := (cells3 rq).2.2
      by_cases hlt : i < L3
      · obtain rfl : A3 = some ⟨g3, 0, none⟩ := by
          rcases HA3.out with ⟨h, _⟩ | ⟨h, _⟩
          · omega
          · exact h
        obtain ⟨⟨u, hu⟩, hf⟩ := FI.at HF.out hlt
        have HNX := Lib.hid (FI.next (x := z) HF.out hlt)
        clear HF ho rq
        go_wp2
        go_roundw
        case rel => exact ⟨i + 1, by omega, by go_num, HNX⟩
        case measure => simp [intOf]; omega
      · obtain rfl : L3 = i := by omega
        obtain ⟨w4, hw4⟩ : ∃ x, x = wr := ⟨_, rfl⟩
        subst hw4
        have HB4 := Lib.hid (ho.below _ _ (by omega) HBa.out)
        have HG4 : Hid (w4.heap[W.heap.size]? = some (.cells #[.int .i64 C0, .int .i64 S0, .slice a0 m0 c0] 24)) := by
          show _ = _
          rw [ho.heap _ (by have := (Array.getElem?_eq_some_iff.1 HGa.out).1; omega) (by omega)]; exact HGa.out
        have HO4 : Hid (∃ yy : List UInt8, yy.length = L2 ∧ OwnB w4 (W.heap.size + 1) 5 (.slice A2 L2 C2) yy) := ⟨y, HL2.out, HOa.out.off ho (by intro k hk; have := HLT.out k hk; omega)⟩
        have s1 := run_string_of (P := Try.prog) 22 9 5 Try.underlying22 Try.underlying5 Try.underlying9 (HOa.out.off ho (by intro k hk; have := HLT.out k hk; omega)).bs
        clear HF ho rq HGQ HBa HGa HOa HLT HA3 HO2 HG2 HB2 HL2 HPB HPW HY HKK
        go_wp2
        clear d2 s1
        obtain ⟨yy, hyl, hyo⟩ := HO4.out
        have hs4 : W.heap.size + 1 ≤ w4.heap.size := (Array.getElem?_eq_some_iff.1 HG4.out).1
        obtain ⟨g2, hg2, hg2b⟩ := pick (w := w4) hyo hyl
        have HA2 := Lib.hid hg2
        have HF2 : Hid (FI w4 w4 g2 (W.heap.size + 1) (.slice A2 L2 C2) L2) := ⟨Only.refl _ _, yy, hyl, hyo⟩
        clear hyl hyo hg2 HO4
        go_loopw [12] (fun iv wr => ∃ i : Nat, i ≤ L2 ∧ iv = .int .i64 (i : Int) ∧ Hid (FI w4 wr g2 (W.heap.size + 1) (.slice A2 L2 C2) L2)) (fun iv _ => L2 - (intOf iv).toNat)
        case atStart => exact ⟨0, Nat.zero_le _, rfl, HF2⟩
        case round =>
          clear HF2
          obtain ⟨i, him, rfl, HF⟩ := hrel
          have ho : Only g2 w4 wr := HF.out.1
          by_cases hlt : i < L2
          · obtain rfl : A2 = some ⟨g2, 0, none⟩ := by
              rcases HA2.out with ⟨h, _⟩ | ⟨h, _⟩
              · omega
              · exact h
            obtain ⟨⟨u, hu⟩, hf⟩ := FI.at HF.out hlt
            have HNX := Lib.hid (FI.next (x := z) HF.out hlt)
            clear HF ho
            go_wp2
            go_roundw
            case rel => exact ⟨i + 1, by omega, by go_num, HNX⟩
            case measure => simp [intOf]; omega
          · obtain rfl : L2 = i := by omega
            obtain ⟨w5, hw5⟩ : ∃ x, x = wr := ⟨_, rfl⟩
            subst hw5
            have HB5 := Lib.hid (ho.below _ _ (by omega) HB4.out)
            have HG5 : Hid (w5.heap[W.heap.size]? = some (.cells #[.int .i64 C0, .int .i64 S0, .slice a0 m0 c0] 24)) := by
              show _ = _
              rw [ho.heap _ (by omega) (by omega)]; exact HG4.out
            have hs5 : W.heap.size + 1 ≤ w5.heap.size := (Array.getElem?_eq_some_iff.1 HG5.out).1
            have CL := Lib.hid (client_any C0 S0 a0 m0 c0 x0 HX0.out w5 (HU0.out.below HB5.out) (by omega))
            obtain ⟨p0, p1, p2⟩ := cells3 HG5.out
            clear HF ho HA2 HB4 HG4 hs4
            go_wp2_with fail
            refine CL.out.mono ?_
            rintro e w6 ⟨d, rfl, _, hdo, hb6⟩
            generalize (cliP ⟨C0, S0, x0⟩).2 = k2
            have hE6 : Below w6.heap.size w6 (w6.alloc (.cells #[.int .i64 d.c, .int .i64 d.s, .string d.v, .slice d.ua d.un d.uc, .slice d.ra d.rn d.rc, .bool d.hu, .bool d.hr, .slice d.ka d.kn d.kc] 36)) := (Below.refl _ _).alloc (Nat.le_refl _) _
            have hB6 := hb6.trans (hE6.mono hb6.size)
            obtain ⟨wd, hwd⟩ : ∃ x, x = w6.alloc (.cells #[.int .i64 d.c, .int .i64 d.s, .string d.v, .slice d.ua d.un d.uc, .slice d.ra d.rn d.rc, .bool d.hu, .bool d.hr, .slice d.ka d.kn d.kc] 36) := ⟨_, rfl⟩
            have HGD : Hid (wd.heap[w6.heap.size]? = some (.cells #[.int .i64 d.c, .int .i64 d.s, .string d.v, .slice d.ua d.un d.uc, .slice d.ra d.rn d.rc, .bool d.hu, .bool d.hr, .slice d.ka d.kn d.kc] 36 (0, 0))) := by show _ = _; rw [hwd]; exact heap_alloc_last _ _
            have hsd : wd.heap.size = w6.heap.size + 1 := by rw [hwd]; exact World.size_alloc _ _
            have hs6 : w5.heap.size ≤ w6.heap.size := hb6.size
            have HB6 : Hid (Below W.heap.size W wd) := by show Below _ _ _; rw [hwd]; exact HB5.out.trans (hB6.mono HB5.out.size)
            have HG6 : Hid (wd.heap[W.heap.size]? = some (.cells #[.int .i64 C0, .int .i64 S0, .slice a0 m0 c0] 24)) := by show _ = _; rw [hwd]; exact heap_below HG5.out hB6
            have hlu := own_len hdo.u
            have hlk := own_len hdo.k
            have hub := own_max hdo.u
            have hkb2 := own_max hdo.k
            obtain ⟨gu, hgu, hgub⟩ := pick (w := wd) hdo.u hlu
            have HAU := Lib.hid hgu
            have hgun : gu ≠ w6.heap.size := by rcases hgu with ⟨_, h⟩ | ⟨_, h⟩ <;> omega
            have HNE : Hid (∀ k, (Value.slice d.ka d.kn d.kc).ownBlock = some k → k ≠ gu) := fun k hk => by
              have h1 := World.ownsRow.lt hdo.k k hk
              rcases hgu with ⟨_, h⟩ | ⟨h, _⟩
              · omega
              · intro e1
                subst e1
                exact hdo.ne k (by rw [h]; rfl) hk
            have HKD : Hid (OwnB wd w5.heap.size 5 (.slice d.ka d.kn d.kc) d.kl) := by show OwnB _ _ _ _ _; rw [hwd]; exact hdo.k.below hE6
            have HKL : Hid (∀ k, (Value.slice d.ka d.kn d.kc).ownBlock = some k → k < w6.heap.size) := fun k hk => (World.ownsRow.lt hdo.k k hk).2
            have HLK := Lib.hid hlk
            have HF3 : Hid (FI wd wd gu w5.heap.size (.slice d.ua d.un d.uc) d.un) := ⟨Only.refl _ _, d.ul, hlu, by rw [hwd]; exact hdo.u.below hE6⟩
            have HWD := Lib.hid hwd
            clear hdo hb6 hE6 hB6 hwd hgu hlu hlk CL p0 p1 p2
            go_wp2
            rw [← HWD.out]
            clear HWD
            obtain ⟨un, hun⟩ : ∃ un, un = d.un := ⟨_, rfl⟩
            obtain ⟨kn, hkn⟩ : ∃ kn, kn = d.kn := ⟨_, rfl⟩
            go_loopw [15] (fun iv wr => ∃ i : Nat, i ≤ d.un ∧ iv = .int .i64 (i : Int) ∧ Hid (FI wd wr gu w5.heap.size (.slice d.ua d.un d.uc) d.un)) (fun iv _ => d.un - (intOf iv).toNat)
            case atStart => exact ⟨0, Nat.zero_le _, rfl, HF3⟩
            case round =>
              clear HF3 hun hkn
              obtain ⟨i, him, rfl, HF⟩ := hrel
              have ho : Only gu wd wr := HF.out.1
              have rq : wr.heap[w6.heap.size]? = some (.cells #[.int .i64 d.c, .int .i64 d.s, .string d.v, .slice d.ua d.un d.uc, .slice d.ra d.rn d.rc, .bool d.hu, .bool d.hr, .slice d.ka d.kn d.kc] 36 (0, 0)) := by rw [ho.heap _ (by omega) (by omega)]; exact HGD.out
              have d3 := (cells8 rq).2.2.2.1
              by_cases hlt : i < d.un
              · have hua : d.ua = some ⟨gu, 0, none⟩ := by
                  rcases HAU.out with ⟨h, _⟩ | ⟨h, _⟩
                  · omega
                  · exact h
                rw [hua] at HF d3
                obtain ⟨⟨u, hu⟩, hf⟩ := FI.at HF.out hlt
                have hnx := FI.next (x := z) HF.out hlt
                rw [← hua] at hnx
                have HNX := Lib.hid hnx
                clear HF ho rq hua hnx
                go_wp2
                go_roundw
                case rel => exact ⟨i + 1, by omega, by go_num, HNX⟩
                case measure => simp [intOf]; omega
              · have hie : d.un = i := by omega
                obtain ⟨w7, hw7⟩ : ∃ x, x = wr := ⟨_, rfl⟩
                subst hw7
                have hii : (i : Int) = (d.un : Int) := by omega
                have HB7 := Lib.hid (ho.below _ _ (by omega) HB6.out)
                have HG7 : Hid (w7.heap[W.heap.size]? = some (.cells #[.int .i64 C0, .int .i64 S0, .slice a0 m0 c0] 24)) := by
                  show _ = _
                  rw [ho.heap _ (by omega) (by omega)]; exact HG6.out
                have HGD7 := Lib.hid rq
                have hko := HKD.out.off ho HNE.out
                have hs7 : wd.heap.size ≤ w7.heap.size := ho.size
                obtain ⟨gk, hgk, hgkb⟩ := pick (w := w7) hko HLK.out
                have HAK := Lib.hid hgk
                have hgkn : gk ≠ w6.heap.size := by
                  rcases hgk with ⟨_, h⟩ | ⟨h, _⟩
                  · omega
                  · have := HKL.out gk (by rw [h]; rfl)
                    omega
                have HF4 : Hid (FI w7 w7 gk w5.heap.size (.slice d.ka d.kn d.kc) d.kn) := ⟨Only.refl _ _, d.kl, HLK.out, hko⟩
                clear HF ho rq hko hgk HB6 HG6 HGD HKD HNE HKL HAU hii
                go_wp2
                clear d3
                go_loopw [16] (fun iv wr => ∃ i : Nat, i ≤ d.kn ∧ iv = .int .i64 (i : Int) ∧ Hid (FI w7 wr gk w5.heap.size (.slice d.ka d.kn d.kc) d.kn)) (fun iv _ => d.kn - (intOf iv).toNat)
                case atStart => exact ⟨0, Nat.zero_le _, rfl, HF4⟩
                case round =>
                  clear HF4 hie
                  obtain ⟨i, him, rfl, HF⟩ := hrel
                  have ho : Only gk w7 wr := HF.out.1
                  have rq : wr.heap[w6.heap.size]? = some (.cells #[.int .i64 d.c, .int .i64 d.s, .string d.v, .slice d.ua d.un d.uc, .slice d.ra d.rn d.rc, .bool d.hu, .bool d.hr, .slice d.ka d.kn d.kc] 36 (0, 0)) := by rw [ho.heap _ (by omega) (by omega)]; exact HGD7.out
                  have d7 := (cells8 rq).2.2.2.2.2.2.2
                  by_cases hlt : i < d.kn
                  · have hka : d.ka = some ⟨gk, 0, none⟩ := by
                      rcases HAK.out with ⟨h, _⟩ | ⟨h, _⟩
                      · omega
                      · exact h
                    rw [hka] at HF d7
                    obtain ⟨⟨u, hu⟩, hf⟩ := FI.at HF.out hlt
                    have hnx := FI.next (x := z) HF.out hlt
                    rw [← hka] at hnx
                    have HNX := Lib.hid hnx
                    clear HF ho rq hka hnx
                    go_wp2
                    go_roundw
                    case rel => exact ⟨i + 1, by omega, by go_num, HNX⟩
                    case measure => simp [intOf]; omega
                  · obtain ⟨w8, hw8⟩ : ∃ x, x = wr := ⟨_, rfl⟩
                    subst hw8
                    have HB8 := Lib.hid (ho.below _ _ (by omega) HB7.out)
                    have HG8 : Hid (w8.heap[W.heap.size]? = some (.cells #[.int .i64 C0, .int .i64 S0, .slice a0 m0 c0] 24)) := by
                      show _ = _
                      rw [ho.heap _ (by omega) (by omega)]; exact HG7.out
                    obtain ⟨p0, p1, p2⟩ := cells3 HG8.out
                    have s1 := run_string_of (P := Try.prog) 22 9 5 Try.underlying22 Try.underlying5 Try.underlying9 (HU0.out.below HB8.out)
                    have hfin : ¬ (i : Int) < (d.kn : Int) := by omega
                    clear HF ho rq
                    go_wp2_with fail
                    refine (AW.out w8).mono ?_
                    rintro e w9 ⟨rfl, hb9⟩
                    have HB9 := Lib.hid (HB8.out.trans (hb9.mono HB8.out.size))
                    clear hb9
                    go_wp2
                    go_ret
                    exact ⟨by simp, HB9.out⟩
  · obtain ⟨w4, hw4⟩ : ∃ x, x = w2 := ⟨_, rfl⟩
    have HB4 : Hid (Below W.heap.size W w4) := by show Below _ _ _; rw [hw4]; exact HB2.out
    have HG4 : Hid (w4.heap[W.heap.size]? = some (.cells #[.int .i64 C0, .int .i64 S0, .slice a0 m0 c0] 24)) := by show _ = _; rw [hw4]; exact HG2.out
    have HO4 : Hid (∃ yy : List UInt8, yy.length = L2 ∧ OwnB w4 (W.heap.size + 1) 5 (.slice A2 L2 C2) yy) := ⟨_, HL2.out, by rw [hw4]; exact HO2.out⟩
    have hkb : (k == 0) = false := by rw [beq_eq_false_iff_ne]; exact hk0
    rw [← hw4]
    clear hw4 HB2 HG2 HO2 HL2 HKK hs2
    go_wp2
    obtain ⟨yy, hyl, hyo⟩ := HO4.out
    have hs4 : W.heap.size + 1 ≤ w4.heap.size := (Array.getElem?_eq_some_iff.1 HG4.out).1
    obtain ⟨g2, hg2, hg2b⟩ := pick (w := w4) hyo hyl
    have HA2 := Lib.hid hg2
    have HF2 : Hid (FI w4 w4 g2 (W.heap.size + 1) (.slice A2 L2 C2) L2) := ⟨Only.refl _ _, yy, hyl, hyo⟩
    clear hyl hyo hg2 HO4
    go_loopw [12] (fun iv wr => ∃ i : Nat, i ≤ L2 ∧ iv = .int .i64 (i : Int) ∧ Hid (FI w4 wr g2 (W.heap.size + 1) (.slice A2 L2 C2) L2)) (fun iv _ => L2 - (intOf iv).toNat)
    case atStart => exact ⟨0, Nat.zero_le _, rfl, HF2⟩
    case round =>
      clear HF2
      obtain ⟨i, him, rfl, HF⟩ := hrel
      have ho : Only g2 w4 wr := HF.out.1
      by_cases hlt : i < L2
      · obtain rfl : A2 = some ⟨g2, 0, none⟩ := by
          rcases HA2.out with ⟨h, _⟩ | ⟨h, _⟩
          · omega
          · exact h
        obtain ⟨⟨u, hu⟩, hf⟩ := FI.at HF.out hlt
        have HNX := Lib.hid (FI.next (x := z) HF.out hlt)
        clear HF ho
        go_wp2
        go_roundw
        case rel => exact ⟨i + 1, by omega, by go_num, HNX⟩
        case measure => simp [intOf]; omega
      · obtain rfl : L2 = i := by omega
        obtain ⟨w5, hw5⟩ : ∃ x, x = wr := ⟨_, rfl⟩
        subst hw5
        have HB5 := Lib.hid (ho.below _ _ (by omega) HB4.out)
        have HG5 : Hid (w5.heap[W.heap.size]? = some (.cells #[.int .i64 C0, .int .i64 S0, .slice a0 m0 c0] 24)) := by
          show _ = _
          rw [ho.heap _ (by omega) (by omega)]; exact HG4.out
        have hs5 : W.heap.size + 1 ≤ w5.heap.size := (Array.getElem?_eq_some_iff.1 HG5.out).1
        have CL := Lib.hid (client_any C0 S0 a0 m0 c0 x0 HX0.out w5 (HU0.out.below HB5.out) (by omega))
        obtain ⟨p0, p1, p2⟩ := cells3 HG5.out
        clear HF ho HA2 HB4 HG4 hs4
        go_wp2_with fail
        refine CL.out.mono ?_
        rintro e w6 ⟨d, rfl, _, hdo, hb6⟩
        generalize (cliP ⟨C0, S0, x0⟩).2 = k2
        have hE6 : Below w6.heap.size w6 (w6.alloc (.cells #[.int .i64 d.c, .int .i64 d.s, .string d.v, .slice d.ua d.un d.uc, .slice d.ra d.rn d.rc, .bool d.hu, .bool d.hr, .slice d.ka d.kn d.kc] 36)) := (Below.refl _ _).alloc (Nat.le_refl _) _
        have hB6 := hb6.trans (hE6.mono hb6.size)
        obtain ⟨wd, hwd⟩ : ∃ x, x = w6.alloc (.cells #[.int .i64 d.c, .int .i64 d.s, .string d.v, .slice d.ua d.un d.uc, .slice d.ra d.rn d.rc, .bool d.hu, .bool d.hr, .slice d.ka d.kn d.kc] 36) := ⟨_, rfl⟩
        have HGD : Hid (wd.heap[w6.heap.size]? = some (.cells #[.int .i64 d.c, .int .i64 d.s, .string d.v, .slice d.ua d.un d.uc, .slice d.ra d.rn d.rc, .bool d.hu, .bool d.hr, .slice d.ka d.kn d.kc] 36 (0, 0))) := by show _ = _; rw [hwd]; exact heap_alloc_last _ _
        have hsd : wd.heap.size = w6.heap.size + 1 := by rw [hwd]; exact World.size_alloc _ _
        have hs6 : w5.heap.size ≤ w6.heap.size := hb6.size
        have HB6 : Hid (Below W.heap.size W wd) := by show Below _ _ _; rw [hwd]; exact HB5.out.trans (hB6.mono HB5.out.size)
        have HG6 : Hid (wd.heap[W.heap.size]? = some (.cells #[.int .i64 C0, .int .i64 S0, .slice a0 m0 c0] 24)) := by show _ = _; rw [hwd]; exact heap_below HG5.out hB6
        have hlu := own_len hdo.u
        have hlk := own_len hdo.k
        have hub := own_max hdo.u
        have hkb2 := own_max hdo.k
        obtain ⟨gu, hgu, hgub⟩ := pick (w := wd) hdo.u hlu
        have HAU := Lib.hid hgu
        have hgun : gu ≠ w6.heap.size := by rcases hgu with ⟨_, h⟩ | ⟨_, h⟩ <;> omega
        have HNE : Hid (∀ k, (Value.slice d.ka d.kn d.kc).ownBlock = some k → k ≠ gu) := fun k hk => by
          have h1 := World.ownsRow.lt hdo.k k hk
          rcases hgu with ⟨_, h⟩ | ⟨h, _⟩
          · omega
          · intro e1
            subst e1
            exact hdo.ne k (by rw [h]; rfl) hk
        have HKD : Hid (OwnB wd w5.heap.size 5 (.slice d.ka d.kn d.kc) d.kl) := by show OwnB _ _ _ _ _; rw [hwd]; exact hdo.k.below hE6
        have HKL : Hid (∀ k, (Value.slice d.ka d.kn d.kc).ownBlock = some k → k < w6.heap.size) := fun k hk => (World.ownsRow.lt hdo.k k hk).2
        have HLK := Lib.hid hlk
        have HF3 : Hid (FI wd wd gu w5.heap.size (.slice d.ua d.un d.uc) d.un) := ⟨Only.refl _ _, d.ul, hlu, by rw [hwd]; exact hdo.u.below hE6⟩
        have HWD := Lib.hid hwd
        clear hdo hb6 hE6 hB6 hwd hgu hlu hlk CL p0 p1 p2
        go_wp2
        rw [← HWD.out]
        clear HWD
        obtain ⟨un, hun⟩ : ∃ un, un = d.un := ⟨_, rfl⟩
        obtain ⟨kn, hkn⟩ : ∃ kn, kn = d.kn := ⟨_, rfl⟩
        go_loopw [15] (fun iv wr => ∃ i : Nat, i ≤ d.un ∧ iv = .int .i64 (i : Int) ∧ Hid (FI wd wr gu w5.heap.size (.slice d.ua d.un d.uc) d.un)) (fun iv _ => d.un - (intOf iv).toNat)
        case atStart => exact ⟨0, Nat.zero_le _, rfl, HF3⟩
        case round =>
          clear HF3 hun hkn
          obtain ⟨i, him, rfl, HF⟩ := hrel
          have ho : Only gu wd wr := HF.out.1
          have rq : wr.heap[w6.heap.size]? = some (.cells #[.int .i64 d.c, .int .i64 d.s, .string d.v, .slice d.ua d.un d.uc, .slice d.ra d.rn d.rc, .bool d.hu, .bool d.hr, .slice d.ka d.kn d.kc] 36 (0, 0)) := by rw [ho.heap _ (by omega) (by omega)]; exact HGD.out
          have d3 := (cells8 rq).2.2.2.1
          by_cases hlt : i < d.un
          · have hua : d.ua = some ⟨gu, 0, none⟩ := by
              rcases HAU.out with ⟨h, _⟩ | ⟨h, _⟩
              · omega
              · exact h
            rw [hua] at HF d3
            obtain ⟨⟨u, hu⟩, hf⟩ := FI.at HF.out hlt
            have hnx := FI.next (x := z) HF.out hlt
            rw [← hua] at hnx
            have HNX := Lib.hid hnx
            clear HF ho rq hua hnx
            go_wp2
            go_roundw
            case rel => exact ⟨i + 1, by omega, by go_num, HNX⟩
            case measure => simp [intOf]; omega
          · have hie : d.un = i := by omega
            obtain ⟨w7, hw7⟩ : ∃ x, x = wr := ⟨_, rfl⟩
            subst hw7
            have hii : (i : Int) = (d.un : Int) := by omega
            have HB7 := Lib.hid (ho.below _ _ (by omega) HB6.out)
            have HG7 : Hid (w7.heap[W.heap.size]? = some (.cells #[.int .i64 C0, .int .i64 S0, .slice a0 m0 c0] 24)) := by
              show _ = _
              rw [ho.heap _ (by omega) (by omega)]; exact HG6.out
            have HGD7 := Lib.hid rq
            have hko := HKD.out.off ho HNE.out
            have hs7 : wd.heap.size ≤ w7.heap.size := ho.size
            obtain ⟨gk, hgk, hgkb⟩ := pick (w := w7) hko HLK.out
            have HAK := Lib.hid hgk
            have hgkn : gk ≠ w6.heap.size := by
              rcases hgk with ⟨_, h⟩ | ⟨h, _⟩
              · omega
              · have := HKL.out gk (by rw [h]; rfl)
                omega
            have HF4 : Hid (FI w7 w7 gk w5.heap.size (.slice d.ka d.kn d.kc) d.kn) := ⟨Only.refl _ _, d.kl, HLK.out, hko⟩
            clear HF ho rq hko hgk HB6 HG6 HGD HKD HNE HKL HAU hii
            go_wp2
            clear d3
            go_loopw [16] (fun iv wr => ∃ i : Nat, i ≤ d.kn ∧ iv = .int .i64 (i : Int) ∧ Hid (FI w7 wr gk w5.heap.size (.slice d.ka d.kn d.kc) d.kn)) (fun iv _ => d.kn - (intOf iv).toNat)
            case atStart => exact ⟨0, Nat.zero_le _, rfl, HF4⟩
            case round =>
              clear HF4 hie
              obtain ⟨i, him, rfl, HF⟩ := hrel
              have ho : Only gk w7 wr := HF.out.1
              have rq : wr.heap[w6.heap.size]? = some (.cells #[.int .i64 d.c, .int .i64 d.s, .string d.v, .slice d.ua d.un d.uc, .slice d.ra d.rn d.rc, .bool d.hu, .bool d.hr, .slice d.ka d.kn d.kc] 36 (0, 0)) := by rw [ho.heap _ (by omega) (by omega)]; exact HGD7.out
              have d7 := (cells8 rq).2.2.2.2.2.2.2
              by_cases hlt : i < d.kn
              · have hka : d.ka = some ⟨gk, 0, none⟩ := by
                  rcases HAK.out with ⟨h, _⟩ | ⟨h, _⟩
                  · omega
                  · exact h
                rw [hka] at HF d7
                obtain ⟨⟨u, hu⟩, hf⟩ := FI.at HF.out hlt
                have hnx := FI.next (x := z) HF.out hlt
                rw [← hka] at hnx
                have HNX := Lib.hid hnx
                clear HF ho rq hka hnx
                go_wp2
                go_roundw
                case rel => exact ⟨i + 1, by omega, by go_num, HNX⟩
                case measure => simp [intOf]; omega
              · obtain ⟨w8, hw8⟩ : ∃ x, x = wr := ⟨_, rfl⟩
                subst hw8
                have HB8 := Lib.hid (ho.below _ _ (by omega) HB7.out)
                have HG8 : Hid (w8.heap[W.heap.size]? = some (.cells #[.int .i64 C0, .int .i64 S0, .slice a0 m0 c0] 24)) := by
                  show _ = _
                  rw [ho.heap _ (by omega) (by omega)]; exact HG7.out
                obtain ⟨p0, p1, p2⟩ := cells3 HG8.out
                have s1 := run_string_of (P := Try.prog) 22 9 5 Try.underlying22 Try.underlying5 Try.underlying9 (HU0.out.below HB8.out)
                have hfin : ¬ (i : Int) < (d.kn : Int) := by omega
                clear HF ho rq
                go_wp2_with fail
                refine (AW.out w8).mono ?_
                rintro e w9 ⟨rfl, hb9⟩
                have HB9 := Lib.hid (HB8.out.trans (hb9.mono HB8.out.size))
                clear hb9
                go_wp2
                go_ret
                exact ⟨by simp, HB9.out⟩

theorem own : ownKnob Try.prog.godebug = none := by kernel_rfl
theorem laidOut : laidOutB Try.prog = true := by kernel_rfl
set_option maxRecDepth 100000 in
theorem lifted (os : Os) (started : os.Started) (H : Type) (enc : TypeId × Value → H) :
    ReturnsInHanded {} Try.checked os 8 .any (Rows.pppoeOwnSpec.pre6 enc Try.prog Try.f8 Rows.pppoeOwnRow.domain false) (Rows.pppoeOwnSpec.post enc Try.prog Try.f8 false true false false) := by
  refine returnsInHanded_of_change (C := Try.checked) own started (by kernel_rfl) Try.func8
    (ChangeSpec.witness6 (enc := enc) (C := Try.checked) false ⟨#[], #[.agg #[.int .i64 0, .int .i64 0, .slice none 0 0], .int .u8 0], []⟩ 8 (by kernel_rfl) (by kernel_rfl) (by kernel_rfl) (by kernel_rfl)) ?_
  intro W base args ds gs before hval0 hW hcnd _
  have hval : ∀ (j : Nat) t v, Try.f8.params[j]? = some t → args[j]? = some v → Value.okWide Try.prog W .any base t v := hval0
  have hW' := hW
  obtain ⟨p, q, hA0, hV, rfl, hfz, hnd⟩ := hW
  have hA : DataW.TrodAll enc Try.prog W 0 (fun _ => true) true Try.f8.params.toList args.toList ds p := hA0
  rw [Try.params8] at hA hval
  obtain ⟨v0, vs0, d0, ds0, p0, q0, hargs, rfl, rfl, h0, r0⟩ := trodAll_cons hA
  obtain ⟨v1, vs1, d1, ds1, p1, q1, rfl, rfl, rfl, h1, r1⟩ := trodAll_cons r0
  obtain ⟨rfl, rfl, rfl⟩ := trodAll_nil r1
  obtain rfl : args = #[v0, v1] := by cases args; simp_all
  obtain ⟨rfl, rfl⟩ := trodVars_none hV
  have k0 := h0
  have lt0 : ∀ x ∈ p0, x.block < W.heap.size := by obtain ⟨m, hm⟩ := k0; exact DataW.trod_lt m _ _ _ hm
  obtain ⟨C0, S0, a0, n0, c0, l0, rfl, hn0, b0⟩ := open_pppoe Try.underlying24 ⟨rfl, rfl, rfl⟩ Try.underlying3 Try.underlying3 Try.underlying22 Try.underlying5 ⟨by kernel_rfl, by kernel_rfl, by kernel_rfl, by kernel_rfl, by kernel_rfl⟩ (hval 0 24 v0 rfl rfl) h0
  have k1 := h1
  have lt1 : ∀ x ∈ p1, x.block < W.heap.size := by obtain ⟨m, hm⟩ := k1; exact DataW.trod_lt m _ _ _ hm
  obtain ⟨a1, rfl, rfl, rfl, w1⟩ := open_int Try.underlying5 (hval 1 5 v1 rfl rfl) h1
  clear hA0 hval0
  refine (walk W C0 S0 a0 n0 c0 l0 hn0 b0 a1 w1).mono fun e W' ⟨he, bel⟩ => ?_
  subst he
  exact ⟨_, rfl, _, _, _, [], _, [], hW', trodAll_mk1 (shut_bool Try.underlying4 _), (trodAll_cons_mk (Below.trod laidOut (by kernel_rfl) (of_decide_eq_true (by kernel_rfl)) k0 bel lt0) (trodAll_cons_mk (Below.trod laidOut (by kernel_rfl) (of_decide_eq_true (by kernel_rfl)) k1 bel lt1) trodAll_mk0)), rfl, bel.frame _, fun h => by cases h⟩
theorem over : Rows.pppoeOwnRow.holds Try.pinned (OpenSpec.ofChange Rows.pppoeOwnSpec) :=
  OpenClaim.holds_of_wide 8 Try.f8 rfl rfl rfl rfl rfl rfl rfl ⟨rfl, rfl, rfl, rfl, rfl⟩ rfl rfl rfl rfl rfl (by kernel_rfl) Try.func8 (by kernel_rfl)
    (of_decide_eq_true (by kernel_rfl)) (by unfold Func.isWrapper; first | (rw [if_pos (by decide +kernel)]; kernel_rfl) | (rw [if_neg (by decide +kernel)]; exact ⟨rfl, rfl⟩))
    (fun os started H enc _ => lifted os started H enc)
/-- The statement. -/
theorem proved : Rows.PppoeOwnSaid := over
end Go.Proofs.Ytcpeglljcipcbaa.pppoeOwn
