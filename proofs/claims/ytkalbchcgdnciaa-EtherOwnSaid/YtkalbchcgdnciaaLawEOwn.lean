/-
  What ether.Encode, ether.Decode, ether.Reply and ether.Pad tell is new memory: whatever is written into what one of them told changes neither the frame that came in nor what another one told (conciergelaw04.EtherOwn answers true, whatever frame and byte come). No conditions.
-/
import Derived.Test.YtkalbchcgdnciaaEthJ
import Derived.ProofKit
import Derived.OpenShut
import Derived.ChangeOld
namespace Go.Proofs.Ytkalbchcgdnciaa.etherOwn
open Go.ChangeShapes Go.WideShapes Go.ChangeAt Go.RowKit
set_option linter.unusedVariables false
set_option linter.unusedSimpArgs false

theorem own_at {w : World} {base : Nat} {e : TypeId} {a : Option Addr} {n c : Nat} {l : List UInt8} (h : OwnB w base e (.slice a n c) l) (hl : 0 < l.length) : ∃ g, a = some ⟨g, 0, none⟩ ∧ base ≤ g ∧ g < w.heap.size := by
  obtain ⟨h0, ⟨_, h2⟩ | ⟨g, cap, cur, h1, h2, h3, _⟩⟩ := h
  · omega
  · simp only [Value.slice.injEq] at h1
    exact ⟨g, h1.1, h2, (Array.getElem?_eq_some_iff.1 h3).1⟩
theorem own_ne {w : World} {base g : Nat} {e : TypeId} {v : Value} {l : List UInt8} (h : OwnB w base e v l) (hg : g < base ∨ w.heap.size ≤ g) : ∀ k, v.ownBlock = some k → k ≠ g := fun k hk => by
  have := World.ownsRow.lt h k hk
  omega
/-- Block g alone has turned, and v (n bytes) can still be written. -/
def FI (w wr : World) (g base : Nat) (v : Value) (n : Nat) : Prop := Only g w wr ∧ ∃ ys : List UInt8, ys.length = n ∧ OwnB wr base 5 v ys
theorem FI.next {w wr : World} {g base n c i : Nat} {x : UInt8} (h : FI w wr g base (.slice (some ⟨g, 0, none⟩) n c) n) (hi : i < n) : FI w (wr.setCell ⟨g, i, none⟩ (.int .u8 (x.toNat : Int))) g base (.slice (some ⟨g, 0, none⟩) n c) n := by
  obtain ⟨ho, ys, hy, hown⟩ := h
  subst hy
  refine ⟨ho.trans (Only.setCell wr i _), ys.set i x, by simp, ?_⟩
  have := (World.ownsRow.stored hown i (.int .u8 (x.toNat : Int))).1
  unfold OwnB
  rw [List.length_set, List.map_set]
  exact this
theorem FI.at {w wr : World} {g base n c i : Nat} (h : FI w wr g base (.slice (some ⟨g, 0, none⟩) n c) n) (hi : i < n) : (∃ u, wr.cell? ⟨g, i, none⟩ = some u) ∧ wr.frozen? ⟨g, i, none⟩ = false := by
  obtain ⟨ho, ys, hy, hown⟩ := h
  subst hy
  refine ⟨?_, World.ownsRow.frozenAt hown _⟩
  rw [World.ownsRow.cellAt hown _ (by simp; omega)]
  exact ⟨_, List.getElem?_eq_getElem (by simp; omega)⟩

set_option maxRecDepth 100000 in
set_option maxHeartbeats 8000000 in
theorem walk (W : World) (D S : List UInt8) (t : Int) (a0 : Option Addr) (n0 c0 : Nat) (l0 : List UInt8) (hD : D.length = 6) (hS : S.length = 6) (wf : (Lit.int .i64 t).wf = true) (hn0 : l0.length = n0) (b0 : Bs W (.slice a0 n0 c0) l0) (q0 : Int) (wq : (Lit.int .u8 q0).wf = true) :
    Calls Try.prog 8 #[.agg (ethL D S t (.slice a0 n0 c0)).toArray, .int .u8 q0] W fun e w' => e = .returned (.bool true) ∧ Below W.heap.size W w' := by
  obtain ⟨z, rfl⟩ := u8_of_wf wq
  obtain ⟨m, x, hm, hx, u0, hc0⟩ := cut_in hn0 b0
  have HC0 := Lib.hid hc0
  have HX := Lib.hid hx
  have HU := Lib.hid u0
  have HD := Lib.hid hD
  have HS := Lib.hid hS
  have AW := Lib.hid awake_any
  have h13 := ethL_13 t (.slice a0 n0 c0) hD hS
  have HL0 : Hid (13 < (ethL D S t (.slice a0 n0 c0)).length) := by show _ < _; rw [ethL_length _ _ hD hS]; decide
  have HG0 : Hid ((W.alloc (.cells (ethL D S t (.slice a0 n0 c0)).toArray 26)).heap[W.heap.size]? = some (.cells (ethL D S t (.slice a0 n0 c0)).toArray 26 (0, 0))) := heap_alloc_last _ _
  have HB0 : Hid (Below W.heap.size W (W.alloc (.cells (ethL D S t (.slice a0 n0 c0)).toArray 26))) := (Below.refl _ _).alloc (Nat.le_refl _) _
  have F2 : Hid ((Try.prog.info? 24).map (·.size) = some 1) := by show _ = _; kernel_rfl
  have hz8 := UInt8.toNat_lt z
  clear hn0 b0 u0 hc0 hx hD hS wf wq
  go_enter Try.func8, Try.ntmps8
  go_wp2_with fail
  refine (HC0.out _).mono ?_
  rintro e w' ⟨rfl, rfl⟩
  go_wp2_with (with_reducible refine wpList_store_cell rfl 24 (.tmp 20) (.tmp 19) rfl W.heap.size 13 (.slice a0 m c0) rfl rfl 26 _ HG0.out F2.out HL0.out rfl ?_)
  intro w1 h1 ho1
  rw [ethL_set13 _ _ _ HD.out HS.out] at h1
  have HG1 := Lib.hid h1
  have HB1 := Lib.hid (ho1.below _ _ (Nat.le_refl _) HB0.out)
  have HSZ := Lib.hid (size26l t (.slice a0 m c0) HD.out HS.out)
  have hs1 : W.heap.size < w1.heap.size := (Array.getElem?_eq_some_iff.1 h1).1
  clear h1 ho1 h13
  go_wp2_with (with_reducible refine wpList_load_row rfl 26 (.tmp 2) rfl W.heap.size rfl 26 _ (0, 0) _ HG1.out Try.underlying26 rfl HSZ.out ?_)
  refine (encode_any D S t a0 m c0 x HD.out HS.out HX.out w1 (HU.out.below HB1.out)).mono ?_
  rintro e w2 ⟨v2, rfl, hown2, hb2⟩
  have HB2 := Lib.hid (HB1.out.trans (hb2.mono HB1.out.size))
  have HG2 := Lib.hid (heap_below HG1.out hb2)
  have hs2 : w1.heap.size ≤ w2.heap.size := hb2.size
  obtain ⟨a2, c2, ev, _, _⟩ := (hown2.bs).shape
  obtain ⟨k, hk⟩ : ∃ k, k = chk t x.length := ⟨_, rfl⟩
  rw [← hk]
  have HK := Lib.hid hk
  by_cases h0 : k = 0
  · have hchk : chk t x.length = 0 := by rw [← HK.out]; exact h0
    have htr := chk_zero hchk
    obtain ⟨T, rfl⟩ : ∃ T : Nat, t = (T : Int) := ⟨t.toNat, by omega⟩
    have hyy : encL D S (T : Int) x = wireL D S T x := by unfold encL; rw [if_pos hchk]; rfl
    rw [hyy] at hown2 ev
    have hd1 : dchk (wireL D S T x) = 0 := dchk_wire T x HD.out HS.out (by omega) (by omega) (by omega)
    have hd2 : decP (wireL D S T x) = x := by unfold decP; rw [if_pos hd1]; exact wire_l T x HD.out HS.out
    have hyl : (wireL D S T x).length = 14 + x.length := wireL_length T x HD.out HS.out
    obtain ⟨y, hy⟩ : ∃ y, y = wireL D S T x := ⟨_, rfl⟩
    rw [← hy] at hown2 ev hd1 hd2 hyl
    obtain ⟨p, hp⟩ : ∃ p, p = y.length := ⟨_, rfl⟩
    rw [← hp] at ev
    subst ev
    have hp2 : p = 14 + m := by rw [hp, hyl, HX.out]
    have hpr : p ≤ 1614 := by omega
    have hp14 : 14 ≤ p := by omega
    have HO2 := Lib.hid hown2
    have HYP : Hid (y.length = p) := hp.symm
    have HD1 := Lib.hid hd1
    have HD2 := Lib.hid hd2
    subst h0
    clear hown2 hb2 hk hchk htr hyy hy hp hp2 hyl hd1 hd2
    have hst := run_string_of (P := Try.prog) 24 9 5 Try.underlying24 Try.underlying5 Try.underlying9 HO2.out.bs
    go_wp2_with fail
    have DC := Lib.hid (decode_any a2 p c2 y HYP.out w2 HO2.out.bs (by omega))
    refine DC.out.mono ?_
    rintro e w3 ⟨v3, rfl, hown3, hb3⟩
    rw [HD2.out] at hown3
    rw [HD1.out]
    have HB3 := Lib.hid (HB2.out.trans (hb3.mono HB2.out.size))
    have HG3 := Lib.hid (heap_below HG2.out hb3)
    have hs3 : w2.heap.size ≤ w3.heap.size := hb3.size
    obtain ⟨a3, c3, ev, _, _⟩ := (hown3.bs).shape
    rw [HX.out] at ev
    subst ev
    have HO3 := Lib.hid hown3
    have HO23 := Lib.hid (HO2.out.below hb3)
    have HLE := Lib.hid (ethL_length (decT y) (.slice a3 m c3) (decD_length y) (decS_length y))
    have HONE := Lib.hid (ethL_one (decD y) (decS y) (decT y) (.slice a3 m c3) rfl)
    have HE13 := Lib.hid (ethL_13 (decT y) (.slice a3 m c3) (decD_length y) (decS_length y))
    generalize ethL (decD y) (decS y) (decT y) (.slice a3 m c3) = E at HLE HONE HE13 ⊢
    have HZ : Hid ((w3.alloc (.cells #[.int .u8 0, .int .u8 0, .int .u8 0, .int .u8 0, .int .u8 0, .int .u8 0, .int .u8 0, .int .u8 0, .int .u8 0, .int .u8 0, .int .u8 0, .int .u8 0, .int .i64 0, .slice none 0 0] 26)).heap[w3.heap.size]? = some (.cells ethZ.toArray 26 (0, 0))) := heap_alloc_last _ _
    have HSE : Hid ((Try.prog.info? 26).map (·.size) = some E.length) := by show _ = _; rw [HLE.out]; exact size26
    have HNE : Hid (E.length = ethZ.length) := HLE
    clear hown3 hb3 hst
    go_wp2_with (with_reducible refine wpList_store_whole rfl 26 (.tmp 8) (.tmp 39) rfl w3.heap.size E rfl rfl 26 ethZ HZ.out HSE.out HNE.out HONE.out ?_)
    intro w4 h4 ho4
    have hb4 : Below w3.heap.size w3 w4 := ho4.below _ _ (Nat.le_refl _) ((Below.refl _ _).alloc (Nat.le_refl _) _)
    have HB4 := Lib.hid (HB3.out.trans (hb4.mono HB3.out.size))
    have HG4 := Lib.hid (heap_below HG3.out hb4)
    have H84 := Lib.hid h4
    have HO24 := Lib.hid (HO23.out.below hb4)
    have HO34 := Lib.hid (HO3.out.below hb4)
    have hs4 : w3.heap.size < w4.heap.size := (Array.getElem?_eq_some_iff.1 h4).1
    have c13 := cell13 HD.out HS.out HG4.out
    have RD4 := Lib.hid (range_D HD.out HG4.out)
    have SD4 := Lib.hid (size23l D HD.out)
    clear h4 ho4 hb4
    go_wp2_with (first | (with_reducible refine wpList_load_row rfl 26 (.tmp 2) rfl W.heap.size rfl 26 _ (0, 0) _ HG4.out Try.underlying26 rfl HSZ.out ?_) | (with_reducible refine wpList_load_mid rfl 23 (.tmp 42) rfl W.heap.size 0 rfl (D.map u8v) _ RD4.out under23 rfl SD4.out ?_))
    refine (reply_any D S D T (.slice a0 m c0) a0 m c0 x HD.out HS.out HD.out rfl HX.out w4 (HU.out.below HB4.out) (by omega)).mono ?_
    rintro e w5 ⟨v5, rfl, hown5, hb5⟩
    have HB5 := Lib.hid (HB4.out.trans (hb5.mono HB4.out.size))
    have HG5 := Lib.hid (heap_below HG4.out hb5)
    have H85 := Lib.hid (heap_below H84.out hb5)
    have HO25 := Lib.hid (HO24.out.below hb5)
    have HO35 := Lib.hid (HO34.out.below hb5)
    have hs5 : w4.heap.size ≤ w5.heap.size := hb5.size
    obtain ⟨a5, c5, ev, _, _⟩ := (hown5.bs).shape
    rw [HX.out] at ev
    subst ev
    have HO5 := Lib.hid hown5
    have HLF := Lib.hid (ethL_length (T : Int) (.slice a5 m c5) HS.out HD.out)
    have HONF := Lib.hid (ethL_one S D (T : Int) (.slice a5 m c5) rfl)
    have HF13 := Lib.hid (ethL_13 (T : Int) (.slice a5 m c5) HS.out HD.out)
    generalize ethL S D (T : Int) (.slice a5 m c5) = F at HLF HONF HF13 ⊢
    have HZF : Hid ((w5.alloc (.cells #[.int .u8 0, .int .u8 0, .int .u8 0, .int .u8 0, .int .u8 0, .int .u8 0, .int .u8 0, .int .u8 0, .int .u8 0, .int .u8 0, .int .u8 0, .int .u8 0, .int .i64 0, .slice none 0 0] 26)).heap[w5.heap.size]? = some (.cells ethZ.toArray 26 (0, 0))) := heap_alloc_last _ _
    have HSF : Hid ((Try.prog.info? 26).map (·.size) = some F.length) := by show _ = _; rw [HLF.out]; exact size26
    have HNF : Hid (F.length = ethZ.length) := HLF
    clear hown5 hb5 c13
    go_wp2_with (with_reducible refine wpList_store_whole rfl 26 (.tmp 10) (.tmp 46) rfl w5.heap.size F rfl rfl 26 ethZ HZF.out HSF.out HNF.out HONF.out ?_)
    intro w6 h6 ho6
    have hb6 : Below w5.heap.size w5 w6 := ho6.below _ _ (Nat.le_refl _) ((Below.refl _ _).alloc (Nat.le_refl _) _)
    have HB6 := Lib.hid (HB5.out.trans (hb6.mono HB5.out.size))
    have HG6 := Lib.hid (heap_below HG5.out hb6)
    have H86 := Lib.hid (heap_below H85.out hb6)
    have H106 := Lib.hid h6
    have HO26 := Lib.hid (HO25.out.below hb6)
    have HO36 := Lib.hid (HO35.out.below hb6)
    have HO56 := Lib.hid (HO5.out.below hb6)
    have hs6 : w5.heap.size < w6.heap.size := (Array.getElem?_eq_some_iff.1 h6).1
    have PD := Lib.hid (pad_any a2 p c2 y HYP.out w6 HO26.out.bs (by omega))
    clear h6 ho6 hb6
    go_wp2_with fail
    refine PD.out.mono ?_
    rintro e w7 ⟨c7, rfl, hown7, hb7⟩
    have HB7 := Lib.hid (HB6.out.trans (hb7.mono HB6.out.size))
    have HG7 := Lib.hid (heap_below HG6.out hb7)
    have H87 := Lib.hid (heap_below H86.out hb7)
    have H107 := Lib.hid (heap_below H106.out hb7)
    have HO27 := Lib.hid (HO26.out.below hb7)
    have HO37 := Lib.hid (HO36.out.below hb7)
    have HO57 := Lib.hid (HO56.out.below hb7)
    obtain ⟨pn, hpn⟩ : ∃ pn, pn = max p 60 := ⟨_, rfl⟩
    have HPL : Hid ((padL y).length = pn) := by show _ = _; rw [padL_length, HYP.out, hpn]
    have hpn2 : pn ≤ 1614 := by omega
    have hpn3 : 0 < pn := by omega
    rw [← hpn] at hown7 ⊢
    have HO7 := Lib.hid hown7
    have hs7 : w6.heap.size < w7.heap.size := by
      obtain ⟨g, hg, _, hlt⟩ := own_at hown7 (by rw [HPL.out]; exact hpn3)
      simp only [Option.some.injEq, Addr.mk.injEq] at hg
      omega
    have c13 := cell13 HD.out HS.out HG7.out
    have hsx := run_string_of (P := Try.prog) 24 9 5 Try.underlying24 Try.underlying5 Try.underlying9 (HU.out.below HB7.out)
    -- the two payloads: where they begin
    obtain ⟨g3, ha3, hg3⟩ : ∃ g3, (m = 0 ∨ a3 = some ⟨g3, 0, none⟩) ∧ (w7.heap.size < g3 ∨ (w2.heap.size ≤ g3 ∧ g3 < w3.heap.size)) := by
      by_cases hm0 : m = 0
      · exact ⟨w7.heap.size + 1, .inl hm0, .inl (by omega)⟩
      · obtain ⟨g, h1, h2, h3⟩ := own_at HO3.out (by rw [HX.out]; omega)
        exact ⟨g, .inr h1, .inr ⟨h2, h3⟩⟩
    obtain ⟨g5, ha5, hg5⟩ : ∃ g5, (m = 0 ∨ a5 = some ⟨g5, 0, none⟩) ∧ (w7.heap.size < g5 ∨ (w4.heap.size ≤ g5 ∧ g5 < w5.heap.size)) := by
      by_cases hm0 : m = 0
      · exact ⟨w7.heap.size + 1, .inl hm0, .inl (by omega)⟩
      · obtain ⟨g, h1, h2, h3⟩ := own_at HO5.out (by rw [HX.out]; omega)
        exact ⟨g, .inr h1, .inr ⟨h2, h3⟩⟩
    have HA3 := Lib.hid ha3
    have HA5 := Lib.hid ha5
    have hpp : 0 < p := by omega
    obtain ⟨g2, ha2, hg21, hg22⟩ := own_at HO2.out (by rw [HYP.out]; exact hpp)
    have HF1 : Hid (FI w7 w7 g3 w2.heap.size (.slice a3 m c3) m) := ⟨Only.refl _ _, x, HX.out, HO37.out⟩
    clear hown7 hb7 hpn ha3 ha5
    subst ha2
    clear hsx
    have hsx := run_string_of (P := Try.prog) 24 9 5 Try.underlying24 Try.underlying5 Try.underlying9 (HU.out.below HB7.out)
    go_wp2
    clear hsx c13
    go_loopw [13] (fun iv wr => ∃ i : Nat, i ≤ m ∧ iv = .int .i64 (i : Int) ∧ Hid (FI w7 wr g3 w2.heap.size (.slice a3 m c3) m)) (fun iv _ => m - (intOf iv).toNat)
    case atStart => exact ⟨0, Nat.zero_le _, rfl, HF1⟩
    case round =>
      clear HF1
      obtain ⟨i, him, rfl, HF⟩ := hrel
      have ho : Only g3 w7 wr := HF.out.1
      have r8 : wr.heap[w3.heap.size]? = some (.cells E.toArray 26 (0, 0)) := by rw [ho.heap _ (by omega) (by omega)]; exact H87.out
      have d13 : wr.cell? ⟨w3.heap.size, 13, none⟩ = some (.slice a3 m c3) := by rw [cell_of_row _ _ _ _ _ _ r8]; simpa using HE13.out
      by_cases hlt : i < m
      · obtain rfl : a3 = some ⟨g3, 0, none⟩ := by
          rcases HA3.out with h | h
          · omega
          · exact h
        obtain ⟨⟨u, hu⟩, hf⟩ := FI.at HF.out hlt
        have HNX := Lib.hid (FI.next (x := z) HF.out hlt)
        clear HF ho r8
        go_wp2
        go_roundw
        case rel => exact ⟨i + 1, by omega, by go_num, HNX⟩
        case measure => simp [intOf]; omega
      · obtain rfl : m = i := by omega
        obtain ⟨w8, hw8⟩ : ∃ x, x = wr := ⟨_, rfl⟩
        subst hw8
        have HB8 := Lib.hid (ho.below _ _ (by omega) HB7.out)
        have HG8 : Hid (w8.heap[W.heap.size]? = some (.cells (ethL D S (T : Int) (.slice a0 m c0)).toArray 26 (0, 0))) := by
          show _ = _
          rw [ho.heap _ (by omega) (by omega)]; exact HG7.out
        have H108 : Hid (w8.heap[w5.heap.size]? = some (.cells F.toArray 26 (0, 0))) := by
          show _ = _
          rw [ho.heap _ (by omega) (by omega)]; exact H107.out
        have HO28 := Lib.hid (HO27.out.off ho (by intro k hk; simp [Value.ownBlock] at hk; omega))
        have HO58 := Lib.hid (HO57.out.off ho (own_ne HO5.out (by omega)))
        have HO78 := Lib.hid (HO7.out.off ho (by intro k hk; simp [Value.ownBlock] at hk; omega))
        have hs8 : w7.heap.size ≤ w8.heap.size := ho.size
        have HF2 : Hid (FI w8 w8 g5 w4.heap.size (.slice a5 m c5) m) := ⟨Only.refl _ _, x, HX.out, HO58.out⟩
        clear HF ho r8
        go_wp2
        clear d13
        go_loopw [14] (fun iv wr => ∃ i : Nat, i ≤ m ∧ iv = .int .i64 (i : Int) ∧ Hid (FI w8 wr g5 w4.heap.size (.slice a5 m c5) m)) (fun iv _ => m - (intOf iv).toNat)
        case atStart => exact ⟨0, Nat.zero_le _, rfl, HF2⟩
        case round =>
          clear HF2
          obtain ⟨i, him, rfl, HF⟩ := hrel
          have ho : Only g5 w8 wr := HF.out.1
          have r8 : wr.heap[w5.heap.size]? = some (.cells F.toArray 26 (0, 0)) := by rw [ho.heap _ (by omega) (by omega)]; exact H108.out
          have d13 : wr.cell? ⟨w5.heap.size, 13, none⟩ = some (.slice a5 m c5) := by rw [cell_of_row _ _ _ _ _ _ r8]; simpa using HF13.out
          by_cases hlt : i < m
          · obtain rfl : a5 = some ⟨g5, 0, none⟩ := by
              rcases HA5.out with h | h
              · omega
              · exact h
            obtain ⟨⟨u, hu⟩, hf⟩ := FI.at HF.out hlt
            have HNX := Lib.hid (FI.next (x := z) HF.out hlt)
            clear HF ho r8
            go_wp2
            go_roundw
            case rel => exact ⟨i + 1, by omega, by go_num, HNX⟩
            case measure => simp [intOf]; omega
          · obtain rfl : m = i := by omega
            obtain ⟨w9, hw9⟩ : ∃ x, x = wr := ⟨_, rfl⟩
            subst hw9
            have HB9 := Lib.hid (ho.below _ _ (by omega) HB8.out)
            have HG9 : Hid (w9.heap[W.heap.size]? = some (.cells (ethL D S (T : Int) (.slice a0 m c0)).toArray 26 (0, 0))) := by
              show _ = _
              rw [ho.heap _ (by omega) (by omega)]; exact HG8.out
            have HO29 := Lib.hid (HO28.out.off ho (by intro k hk; simp [Value.ownBlock] at hk; omega))
            have HO79 := Lib.hid (HO78.out.off ho (by intro k hk; simp [Value.ownBlock] at hk; omega))
            have hs9 : w8.heap.size ≤ w9.heap.size := ho.size
            have HF3 : Hid (FI w9 w9 w6.heap.size w6.heap.size (.slice (some ⟨w6.heap.size, 0, none⟩) pn c7) pn) := ⟨Only.refl _ _, padL y, HPL.out, HO79.out⟩
            clear HF ho r8
            go_wp2
            clear d13
            go_loopw [15] (fun iv wr => ∃ i : Nat, i ≤ pn ∧ iv = .int .i64 (i : Int) ∧ Hid (FI w9 wr w6.heap.size w6.heap.size (.slice (some ⟨w6.heap.size, 0, none⟩) pn c7) pn)) (fun iv _ => pn - (intOf iv).toNat)
            case atStart => exact ⟨0, Nat.zero_le _, rfl, HF3⟩
            case round =>
              clear HF3
              obtain ⟨i, him, rfl, HF⟩ := hrel
              have ho : Only w6.heap.size w9 wr := HF.out.1
              by_cases hlt : i < pn
              · obtain ⟨⟨u, hu⟩, hf⟩ := FI.at HF.out hlt
                have HNX := Lib.hid (FI.next (x := z) HF.out hlt)
                clear HF ho
                go_wp2
                go_roundw
                case rel => exact ⟨i + 1, by omega, by go_num, HNX⟩
                case measure => simp [intOf]; omega
              · obtain rfl : pn = i := by omega
                obtain ⟨wA, hwA⟩ : ∃ x, x = wr := ⟨_, rfl⟩
                subst hwA
                have HBA := Lib.hid (ho.below _ _ (by omega) HB9.out)
                have HGA : Hid (wA.heap[W.heap.size]? = some (.cells (ethL D S (T : Int) (.slice a0 m c0)).toArray 26 (0, 0))) := by
                  show _ = _
                  rw [ho.heap _ (by omega) (by omega)]; exact HG9.out
                have HO2A := Lib.hid (HO29.out.off ho (by intro k hk; simp [Value.ownBlock] at hk; omega))
                have hsA : w9.heap.size ≤ wA.heap.size := ho.size
                have c13 := cell13 HD.out HS.out HGA.out
                have hst := run_string_of (P := Try.prog) 24 9 5 Try.underlying24 Try.underlying5 Try.underlying9 HO2A.out.bs
                have hsx := run_string_of (P := Try.prog) 24 9 5 Try.underlying24 Try.underlying5 Try.underlying9 (HU.out.below HBA.out)
                clear HF ho
                go_wp2_with fail
                refine (AW.out _).mono ?_
                rintro e wB ⟨rfl, hbB⟩
                have HBB := Lib.hid (HBA.out.trans (hbB.mono HBA.out.size))
                have HGB := Lib.hid (heap_below HGA.out hbB)
                have HO2B := Lib.hid (HO2A.out.below hbB)
                have hsB : wA.heap.size ≤ wB.heap.size := hbB.size
                have HF4 : Hid (FI wB wB g2 w1.heap.size (.slice (some ⟨g2, 0, none⟩) p c2) p) := ⟨Only.refl _ _, y, HYP.out, HO2B.out⟩
                clear hbB c13 hst hsx
                go_wp2
                go_loopw [16] (fun iv wr => ∃ i : Nat, i ≤ p ∧ iv = .int .i64 (i : Int) ∧ Hid (FI wB wr g2 w1.heap.size (.slice (some ⟨g2, 0, none⟩) p c2) p)) (fun iv _ => p - (intOf iv).toNat)
                case atStart => exact ⟨0, Nat.zero_le _, rfl, HF4⟩
                case round =>
                  clear HF4
                  obtain ⟨i, him, rfl, HF⟩ := hrel
                  have ho : Only g2 wB wr := HF.out.1
                  by_cases hlt : i < p
                  · obtain ⟨⟨u, hu⟩, hf⟩ := FI.at HF.out hlt
                    have HNX := Lib.hid (FI.next (x := z) HF.out hlt)
                    clear HF ho
                    go_wp2
                    go_roundw
                    case rel => exact ⟨i + 1, by omega, by go_num, HNX⟩
                    case measure => simp [intOf]; omega
                  · obtain rfl : p = i := by omega
                    have HBC := Lib.hid (ho.below _ _ (by omega) HBB.out)
                    have rG : wr.heap[W.heap.size]? = some (.cells (ethL D S (T : Int) (.slice a0 m c0)).toArray 26 (0, 0)) := by
                      rw [ho.heap _ (by omega) (by omega)]; exact HGB.out
                    have c13 := cell13 HD.out HS.out rG
                    have hsx := run_string_of (P := Try.prog) 24 9 5 Try.underlying24 Try.underlying5 Try.underlying9 (HU.out.below HBC.out)
                    clear HF ho rG
                    go_wp2
                    go_ret
                    exact ⟨rfl, HBC.out⟩
  · have hne : (k != 0) = true := by simpa using h0
    have hy0 : encL D S t x = [] := by unfold encL; rw [if_neg (by rw [← HK.out]; exact h0)]
    rw [hy0] at ev
    subst ev
    clear hk h0 hy0 hown2
    have HB2' := HB2
    clear hb2
    go_wp2_with fail
    refine (AW.out _).mono ?_
    rintro e w3 ⟨rfl, hb3⟩
    have HB3 := Lib.hid (HB2.out.trans (hb3.mono HB2.out.size))
    clear hb3
    go_wp2
    go_ret
    exact ⟨rfl, HB3.out⟩

theorem own : ownKnob Try.prog.godebug = none := by kernel_rfl
theorem laidOut : laidOutB Try.prog = true := by kernel_rfl
set_option maxRecDepth 100000 in
theorem lifted (os : Os) (started : os.Started) (H : Type) (enc : TypeId × Value → H) :
    ReturnsInHanded {} Try.checked os 8 .any (Rows.etherOwnSpec.pre6 enc Try.prog Try.f8 Rows.etherOwnRow.domain false) (Rows.etherOwnSpec.post enc Try.prog Try.f8 false true false false) := by
  refine returnsInHanded_of_change (C := Try.checked) own started (by kernel_rfl) Try.func8
    (ChangeSpec.witness6 (enc := enc) (C := Try.checked) false ⟨#[], #[.agg #[.int .u8 0, .int .u8 0, .int .u8 0, .int .u8 0, .int .u8 0, .int .u8 0, .int .u8 0, .int .u8 0, .int .u8 0, .int .u8 0, .int .u8 0, .int .u8 0, .int .i64 0, .slice none 0 0], .int .u8 0], []⟩ 8 (by kernel_rfl) (by kernel_rfl) (by kernel_rfl) (by kernel_rfl)) ?_
  intro W base args ds gs before hval0 hW hcnd _
  have hval : ∀ (j : Nat) t v, Try.f8.params[j]? = some t → args[j]? = some v → Value.okWide Try.prog W .any base t v := hval0
  have hW' := hW
  obtain ⟨p, q, hA0, hV, rfl, hfz, hnd⟩ := hW
  have hA : DataW.TrodAll enc Try.prog W 0 (fun _ => true) true Try.f8.params.toList args.toList ds p := hA0
  rw [Try.params8] at hA hval
  obtain ⟨v0, vs0, d0, ds0, p0, q0, hargs, rfl, rfl, h0, r0⟩ := trodAll_cons hA
  obtain ⟨v1, vs1, d1, ds1, p1, q1, rfl, rfl, rfl, h1, r1⟩ := trodAll_cons r0
  obtain ⟨rfl, rfl, rfl⟩ := trodAll_nil r1
  obtain rfl : args = #[v0, v1] := by cases args; simp_all
  obtain ⟨rfl, rfl⟩ := trodVars_none hV
  have k0 := h0
  have lt0 : ∀ x ∈ p0, x.block < W.heap.size := by obtain ⟨m, hm⟩ := k0; exact DataW.trod_lt m _ _ _ hm
  obtain ⟨D0, S0, ty0, a0, n0, c0, l0, rfl, hD0, hS0, wf0, hn0, b0⟩ := open_ether Try.underlying26 ⟨rfl, rfl, rfl, rfl⟩ Try.underlying23 Try.underlying23 Try.underlying3 Try.underlying24 Try.underlying5 ⟨by kernel_rfl, by kernel_rfl, by kernel_rfl, by kernel_rfl, by kernel_rfl, by kernel_rfl⟩ (hval 0 26 v0 rfl rfl) h0
  have k1 := h1
  have lt1 : ∀ x ∈ p1, x.block < W.heap.size := by obtain ⟨m, hm⟩ := k1; exact DataW.trod_lt m _ _ _ hm
  obtain ⟨a1, rfl, rfl, rfl, w1⟩ := open_int Try.underlying5 (hval 1 5 v1 rfl rfl) h1
  clear hA0 hval0
  refine (walk W D0 S0 ty0 a0 n0 c0 l0 hD0 hS0 wf0 hn0 b0 a1 w1).mono fun e W' ⟨he, bel⟩ => ?_
  subst he
  exact ⟨_, rfl, _, _, _, [], _, [], hW', trodAll_mk1 (shut_bool Try.underlying4 _), (trodAll_cons_mk (Below.trod laidOut (by kernel_rfl) (of_decide_eq_true (by kernel_rfl)) k0 bel lt0) (trodAll_cons_mk (Below.trod laidOut (by kernel_rfl) (of_decide_eq_true (by kernel_rfl)) k1 bel lt1) trodAll_mk0)), rfl, bel.frame _, fun h => by cases h⟩
theorem over : Rows.etherOwnRow.holds Try.pinned (OpenSpec.ofChange Rows.etherOwnSpec) :=
  OpenClaim.holds_of_wide 8 Try.f8 rfl rfl rfl rfl rfl rfl rfl ⟨rfl, rfl, rfl, rfl, rfl⟩ rfl rfl rfl rfl rfl (by kernel_rfl) Try.func8 (by kernel_rfl)
    (of_decide_eq_true (by kernel_rfl)) (by unfold Func.isWrapper; first | (rw [if_pos (by decide +kernel)]; kernel_rfl) | (rw [if_neg (by decide +kernel)]; exact ⟨rfl, rfl⟩))
    (fun os started H enc _ => lifted os started H enc)
/-- The statement. -/
theorem proved : Rows.EtherOwnSaid := over
end Go.Proofs.Ytkalbchcgdnciaa.etherOwn
