/-
  For every key and message (slices of bytes: their first 600 bytes) a key and itself with zeros behind it, up to 64 bytes, make the same sum; of a longer key the sum is the document's; what is handed in is neither changed nor kept (conciergelaw03.HmacKeys answers true). The listed table of constants is tied to the program's text. No condition.
-/
import Derived.Test.YtjlebchbfadkoaaDoorMacU
import Derived.ProofKit
import Derived.OpenShut
import Derived.ShutString
import Derived.ChangeOld
import Derived.SevenTiedAt
namespace Go.Proofs.YtjlebchbfadkoaaDoor.hmacKeys
open Go.ChangeShapes Go.WideShapes Go.ChangeAt Go.RowKit
open Go.ChangeMaps (open_string shut_string)
set_option linter.unusedVariables false
set_option linter.unusedSimpArgs false

theorem ownsRow_only {w w' : World} {B g n : Nat} {e : TypeId} {v : Value} {xs : List Value} (h : w.ownsRow B e 1 v n xs) (ho : Only g w w') (hv : v.ownBlock ≠ some g) : w'.ownsRow B e 1 v n xs := by
  refine ⟨h.1, ?_⟩
  rcases h.2 with h | ⟨g', cap, cur, h1, h2, h3, h4⟩
  · exact .inl h
  · refine .inr ⟨g', cap, cur, h1, h2, ?_, h4⟩
    have hne : g' ≠ g := fun e => hv (by rw [h1, e]; rfl)
    rw [ho.heap _ (Array.getElem?_eq_some_iff.1 h3).1 hne]; exact h3
/-- What the first loop holds: j zeros stand behind the key. -/
def KZ (W wr : World) (x : List UInt8) (v : Value) (j : Nat) : Prop :=
  Below W.heap.size W wr ∧ wr.ownsRow W.heap.size 5 1 v (x.length + j) ((x ++ List.replicate j 0).map u8v)
theorem KZ.next {W wr w' : World} {x : List UInt8} {v v' : Value} {j : Nat} {o : Obj} (h : KZ W wr x v j) (hb : Below W.heap.size (wr.alloc o) w') (ho : w'.ownsRow W.heap.size 5 1 v' (x.length + j + 1) ((x ++ List.replicate j 0).map u8v ++ [.int .u8 0])) : KZ W w' x v' (j + 1) := by
  obtain ⟨h1, h2⟩ := h
  have e : (x ++ List.replicate j 0).map u8v ++ [Value.int .u8 0] = (x ++ List.replicate (j + 1) 0).map u8v := by
    rw [List.replicate_succ', ← List.append_assoc, List.map_append (l₁ := x ++ List.replicate j 0)]
    rfl
  rw [e] at ho
  exact ⟨(h1.alloc h1.size o).trans hb, ho⟩
/-- A row whose first k bytes are turned by 255. -/
def KT (w : World) (B : Nat) (v : Value) (l : List UInt8) (k : Nat) : Prop := w.ownsRow B 5 1 v l.length ((turnK l 255 k).map u8v)
theorem KT.at {w : World} {B k g c : Nat} {l : List UInt8} {n : Nat} (h : KT w B (.slice (some ⟨g, 0, none⟩) n c) l k) (hk : k < l.length) (hn : l.length = n) :
    w.cell? ⟨g, k, none⟩ = some (.int .u8 (l[k].toNat : Int)) ∧ w.frozen? ⟨g, k, none⟩ = false ∧ KT (w.setCell ⟨g, k, none⟩ (.int .u8 ((l[k].toNat ^^^ 255 : Nat) : Int))) B (.slice (some ⟨g, 0, none⟩) n c) l (k + 1) := by
  subst hn
  unfold KT at h ⊢
  refine ⟨?_, h.frozenAt k, ?_⟩
  · rw [h.cellAt k (by omega)]
    have := turnK_at l 255 k hk
    simp [this, u8v]
  · have := (h.stored k (.int .u8 ((l[k].toNat ^^^ 255 : Nat) : Int))).1
    have e := turnK_step l 255 k hk
    rw [show (255 : UInt8).toNat = 255 from rfl] at e
    rw [e] at this
    exact this
theorem KT.some_at {w : World} {B k n c : Nat} {a : Option Addr} {l : List UInt8} (h : KT w B (.slice a n c) l k) (hn : 0 < l.length) : ∃ g, a = some ⟨g, 0, none⟩ ∧ B ≤ g := by
  obtain ⟨_, ⟨h1, h2⟩ | ⟨g, cap, cur, h1, h2, h3⟩⟩ := h
  · omega
  · simp only [Value.slice.injEq] at h1
    exact ⟨g, h1.1, h2⟩

set_option maxHeartbeats 8000000 in
theorem walk (W : World) (hL : Laid W) (a0 : Option Addr) (n0 c0 : Nat) (l0 : List UInt8) (hn0 : l0.length = n0) (b0 : Bs W (.slice a0 n0 c0) l0) (q : Int) (wq : (Lit.int .u8 q).wf = true) (a2 : Option Addr) (n2 c2 : Nat) (l2 : List UInt8) (hn2 : l2.length = n2) (b2 : Bs W (.slice a2 n2 c2) l2) :
    Calls Tryd.prog 6 #[.slice a0 n0 c0, .int .u8 q, .slice a2 n2 c2] W fun e w' => e = .returned (.bool true) ∧ Below W.heap.size W w' := by
  obtain ⟨m0, x0, hm0, hx0, u0, lo0, hc0⟩ := cut_in hn0 b0
  obtain ⟨m2, x2, hm2, hx2, u2, lo2, hc2⟩ := cut_in hn2 b2
  have hq : 0 ≤ q ∧ q ≤ 255 := by simpa [Lit.wf, IntKind.min, IntKind.max, IntKind.signed, IntKind.bits] using wq
  obtain ⟨_, _, es0, hc0', hcm0⟩ := u0.shape
  simp only [Value.slice.injEq] at es0
  obtain ⟨rfl, z0, rfl⟩ := es0
  clear z0
  have HC0 := Lib.hid hc0
  have HC2 := Lib.hid hc2
  have HLD := Lib.hid hL
  have HX0 := Lib.hid hx0
  have HX2 := Lib.hid hx2
  have HU0 := Lib.hid u0
  have HU2 := Lib.hid u2
  have HLO2 := Lib.hid lo2
  have HW0 : 0 < W.heap.size := hL.1
  have HS := Lib.hid (fun w (g : Gr W w) => hmac_any a0 m0 c0 x0 hx0 a2 m2 c2 x2 hx2 w (u0.below g) (u2.below g) (hL.below g) (by omega) (by omega))
  have HR := Lib.hid (fun w (g : Gr W w) => rhmac_any a0 m0 c0 x0 hx0 a2 m2 c2 x2 hx2 w (u0.below g) (u2.below g) (by omega) (by omega))
  have TK := Lib.hid u0.txt
  have TM := Lib.hid u2.txt
  obtain ⟨y, hy⟩ : ∃ y, y = hmacL x0 x2 := ⟨_, rfl⟩
  have HY := Lib.hid hy
  have HYL : Hid (y.length = 32) := by show _ = _; rw [hy]; exact hmacL_length _ _
  have HE : ∀ w, (binOp .eql 24 (.agg (y.map u8v).toArray) (.agg (y.map u8v).toArray)).run Tryd.prog w = .ok (.bool true) w := fun w => eql_bytes32 y HYL.out w
  rw [← hy] at HS HR
  obtain ⟨i0, hi, hz0, hz1, hz2⟩ := info_parts info5
  have tk0 := TK.out W (Gr.refl W)
  have A2 : Hid (Below W.heap.size W (W.alloc (.cells #[] 5))) := (Below.refl _ _).alloc (Nat.le_refl _) _
  have E2 := Lib.hid (own_empty W 5)
  have P2 : Hid (Rd (W.alloc (.cells #[] 5)) 1 (.slice a0 m0 c0) m0 (x0.map u8v)) := by
    have := u0.below A2.out
    unfold Bs at this
    rw [hx0] at this
    exact this
  have S2 : Hid (W.heap.size ≤ (W.alloc (.cells #[] 5)).heap.size) := A2.out.size
  unfold maxLen at hcm0
  clear hn0 hn2 b0 b2 u0 u2 lo0 lo2 hc0 hc2 hx0 hx2 hL hy wq
  go_enter Tryd.func6, Tryd.ntmps6
  go_wp2_with fail
  refine (HC0.out _).mono ?_
  rintro e w' ⟨rfl, rfl⟩
  go_wp2_with fail
  refine (HC2.out _).mono ?_
  rintro e w' ⟨rfl, rfl⟩
  go_wp2_with (at_builtin; refine wpList_append_rd _ rfl _ _ 22 rfl W.heap.size 5 i0 (.int .u8 0) 1 1 Tryd.underlying22 hi hz0 hz1 hz2 rfl (by decide) _ 0 [] rfl E2.out _ _ _ rfl P2.out (oneCell_u8 _) ?o2 (by decide) S2.out ?_)
  case o2 => omega
  intro v3 w3 hown3 hb3
  have O3 : Hid (w3.ownsRow W.heap.size 5 1 v3 m0 (x0.map u8v)) := hown3
  have G3 : Hid (Gr W w3) := A2.out.trans hb3
  obtain ⟨av, cv, hv3, _, _⟩ := (own_rd O3.out).shape
  subst hv3
  clear hown3 hb3 E2 P2 S2 A2 tk0
  by_cases h64 : 64 < m0
  · go_wp2_with fail
    refine (HS.out _ G3.out).mono ?_
    rintro e w4 ⟨rfl, hg4⟩
    have G4 : Hid (Gr W w4) := Gr.trans G3.out hg4
    clear hg4
    go_wp2_with fail
    refine (HR.out _ G4.out).mono ?_
    rintro e w5 ⟨rfl, hg5⟩
    have G5 : Hid (Gr W w5) := Gr.trans G4.out hg5
    clear hg5
    have tk5 := TK.out w5 G5.out
    have HA := Lib.hid (awake_any w5 (HLD.out.below G5.out))
    go_wp2_with (go_at_call 15; refine HA.out.mono ?_; rintro e w6 ⟨rfl, hb6⟩)
    go_ret
    exact ⟨rfl, Gr.trans G5.out hb6⟩
  · have HI : Hid (KZ W w3 x0 (.slice av m0 cv) 0) := by
      refine ⟨G3.out, ?_⟩
      rw [HX0.out]
      simpa using O3.out
    clear O3 G3
    go_wp2
    go_loopw [8, 9] (fun v8 i9 wr => ∃ (j : Nat) (av : Option Addr) (cv : Nat), m0 + j ≤ 64 ∧ i9 = .int .i64 (j : Int) ∧ v8 = .slice av (m0 + j) cv ∧ Hid (KZ W wr x0 v8 j)) (fun _ i9 _ => 65 - (intOf i9).toNat)
    case atStart => exact ⟨0, av, cv, by omega, rfl, rfl, HI⟩
    case round =>
      clear HI
      obtain ⟨j, av, cv, hj, rfl, rfl, HI⟩ := hrel
      by_cases hlt : (j : Int) < q ∧ m0 + j < 64
      · obtain ⟨hlt1, hlt2⟩ := hlt
        have O0 : Hid ((wr.alloc (.cells #[.int .u8 0] 5)).ownsRow W.heap.size 5 1 (.slice av (m0 + j) cv) (m0 + j) ((x0 ++ List.replicate j 0).map u8v)) := by
          have := HI.out.2
          rw [HX0.out] at this
          exact this.alloc _
        have P0 : Hid (Rd (wr.alloc (.cells #[.int .u8 0] 5)) 1 (.slice (some ⟨wr.heap.size, 0, none⟩) 1 1) 1 [.int .u8 0]) := rd_new wr [.int .u8 0] 5 1 1 rfl (by decide)
        have C0 : Hid (∀ u ∈ [Value.int .u8 0], u.oneCell' = true) := by intro u hu; simp at hu; rw [hu]; rfl
        have S0 : Hid (W.heap.size ≤ (wr.alloc (.cells #[.int .u8 0] 5)).heap.size) := by show _ ≤ _; rw [World.size_alloc]; have := HI.out.1.size; omega
        go_wp2_with (at_builtin; refine wpList_append_rd _ rfl _ _ 22 rfl W.heap.size 5 i0 (.int .u8 0) 1 1 Tryd.underlying22 hi hz0 hz1 hz2 rfl (by decide) _ _ _ rfl O0.out _ _ _ rfl P0.out C0.out ?o3 (by decide) S0.out ?_)
        case o3 => omega
        intro v7 w7 hown7 hb7
        have HI2 : Hid (KZ W w7 x0 v7 (j + 1)) := by
          refine HI.out.next hb7 ?_
          rw [HX0.out]
          simpa using hown7
        obtain ⟨a7, c7, hv7, _, _⟩ := (own_rd hown7).shape
        subst hv7
        clear hown7 hb7 O0 P0 C0 S0
        go_wp2
        go_roundw
        case rel =>
          first | exact ⟨j + 1, a7, c7, by omega, by go_num, by rw [Nat.add_assoc], HI2⟩ | ((repeat apply Exists.intro); exact ⟨⟨j + 1, a7, c7, by omega, by go_num, by rw [Nat.add_assoc], HI2⟩, rfl⟩)
        case measure => simp [intOf]; omega
      · have hcase : q ≤ (j : Int) ∨ ((j : Int) < q ∧ 64 ≤ m0 + j) := by omega
        obtain ⟨ot, hot⟩ : ∃ ot, ot = x0 ++ List.replicate j 0 := ⟨_, rfl⟩
        have HOT : Hid (ot.length = m0 + j) := by show _ = _; rw [hot, List.length_append, List.length_replicate, HX0.out]
        have HKEY : Hid (hmacL ot x2 = y) := by
          show _ = _
          rw [HY.out, hot]
          exact hmacL_key (keyB_zeros x0 j (by rw [HX0.out]; omega)) x2
        obtain ⟨wA, hwA⟩ : ∃ wA, wA = wr := ⟨_, rfl⟩
        subst hwA
        have HO : Hid (wA.ownsRow W.heap.size 5 1 (.slice av (m0 + j) cv) (m0 + j) (ot.map u8v)) := by
          have := HI.out.2
          rw [HX0.out, ← hot] at this
          exact this
        have HV : Hid (Bs wA (.slice av (m0 + j) cv) ot) := by
          have := own_rd HO.out
          show Bs _ _ _
          unfold Bs
          rw [HOT.out]
          exact this
        have HG := Lib.hid HI.out.1
        have HLOW := Lib.hid (HV.out.low HOT.out)
        clear HI hot hlt
        rcases hcase with hcase | ⟨hcase, hcase2⟩
        all_goals
          go_wp2_with fail
          refine (mac_new_any av (m0 + j) cv ot HOT.out wA HV.out (HLD.out.below HG.out) (by have := HOT.out; omega)).mono ?_
          rintro e w4 ⟨m, gi, go, rfl, hm, hgi, hgo, hh4, hb4⟩
          have HJ : Hid (Below W.heap.size W w4 ∧ MacAt w4 m gi go ot [] ∧ KT w4 W.heap.size (.slice av (m0 + j) cv) ot 0) := by
            refine ⟨Gr.trans HG.out hb4, hh4, ?_⟩
            unfold KT
            rw [turnK_zero, HOT.out]
            exact ownsRow_below HO.out hb4
          have hsr := HG.out.size
          clear hh4 hb4 HO HV HG
          go_wp2
          go_loopw [11] (fun i11 wr => ∃ k : Nat, k ≤ m0 + j ∧ i11 = .int .i64 (k : Int) ∧ Hid (Below W.heap.size W wr ∧ MacAt wr m gi go ot [] ∧ KT wr W.heap.size (.slice av (m0 + j) cv) ot k)) (fun i11 _ => m0 + j - (intOf i11).toNat)
          case atStart => exact ⟨0, by omega, rfl, HJ⟩
          case round =>
            clear HJ
            obtain ⟨k, hk, rfl, HJ⟩ := hrel
            by_cases hlt2 : k < m0 + j
            · have hk2 : k < ot.length := by have := HOT.out; omega
              obtain ⟨g, hav, hgB⟩ := HJ.out.2.2.some_at (by omega)
              have hgl : g < wA.heap.size := HLOW.out (by omega) _ hav
              subst hav
              obtain ⟨cc, cf, hnx⟩ := HJ.out.2.2.at hk2 HOT.out
              have hx8 := UInt8.toNat_lt ot[k]
              obtain ⟨x, hx⟩ : ∃ x, x = ot[k].toNat := ⟨_, rfl⟩
              rw [← hx] at cc hnx hx8
              have e1 := u8_xor_nat x 255 hx8 (by decide)
              obtain ⟨z, hz⟩ : ∃ z, z = x ^^^ 255 := ⟨_, rfl⟩
              rw [← hz] at e1 hnx
              have e2 : bits .xor .u8 (x : Int) 255 = (z : Int) := e1
              have hne1 : m ≠ g := by omega
              have hne2 : gi ≠ g := by omega
              have hne3 : go ≠ g := by omega
              have HJ2 : Hid (Below W.heap.size W (wr.setCell ⟨g, k, none⟩ (.int .u8 (z : Int))) ∧ MacAt (wr.setCell ⟨g, k, none⟩ (.int .u8 (z : Int))) m gi go ot [] ∧ KT (wr.setCell ⟨g, k, none⟩ (.int .u8 (z : Int))) W.heap.size (.slice (some ⟨g, 0, none⟩) (m0 + j) cv) ot (k + 1)) :=
                ⟨Below.setCell HJ.out.1 hgB _, HJ.out.2.1.only (Only.setCell _ _ _) hne1 hne2 hne3, hnx⟩
              clear hnx hx hz e1
              go_wp2
              go_roundw
              case rel =>
                first | exact ⟨k + 1, by omega, by go_num, HJ2⟩ | ((repeat apply Exists.intro); exact ⟨⟨k + 1, by omega, by go_num, HJ2⟩, rfl⟩)
              case measure => simp [intOf]; omega
            · obtain rfl : k = m0 + j := by omega
              obtain ⟨wB, hwB⟩ : ∃ wB, wB = wr := ⟨_, rfl⟩
              subst hwB
              have HG5 := Lib.hid HJ.out.1
              have HM5 := Lib.hid HJ.out.2.1
              have HOFF : Hid (0 < m2 → Off gi a2) := fun h0 ad had => by have := HLO2.out h0 ad had; omega
              clear HJ hlt2
              go_wp2_with fail
              refine (mac_add_any m gi go ot [] wB HM5.out (HLD.out.below HG5.out) (by omega) a2 m2 c2 x2 HX2.out (HU2.out.below HG5.out) HOFF.out (by have := HX2.out; simp; omega)).mono ?_
              rintro e w6 ⟨rfl, hh6, ho6⟩
              rw [List.nil_append] at hh6
              have HM6 := Lib.hid hh6
              have G6 : Hid (Gr W w6) := ho6.below _ _ (by omega) HG5.out
              have tm6 := TM.out w6 G6.out
              have A6 : Hid (Below w6.heap.size w6 (w6.alloc (.cells #[] 5))) := (Below.refl _ _).alloc (Nat.le_refl _) _
              have E6 := Lib.hid (own_empty w6 5)
              have P6 : Hid (Rd (w6.alloc (.cells #[] 5)) 1 (.slice a2 m2 c2) m2 (x2.map u8v)) := by
                have := (HU2.out.below G6.out).below A6.out
                unfold Bs at this
                rw [HX2.out] at this
                exact this
              have S6 : Hid (w6.heap.size ≤ (w6.alloc (.cells #[] 5)).heap.size) := A6.out.size
              clear hh6 ho6 HM5 HG5
              go_wp2_with (at_builtin; refine wpList_append_rd _ rfl _ _ 22 rfl w6.heap.size 5 i0 (.int .u8 0) 1 1 Tryd.underlying22 hi hz0 hz1 hz2 rfl (by decide) _ 0 [] rfl E6.out _ _ _ rfl P6.out (oneCell_u8 _) ?o4 (by decide) S6.out ?_)
              case o4 => omega
              intro v7 w7 hown7 hb7
              have O7 : Hid (w7.ownsRow w6.heap.size 5 1 v7 m2 (x2.map u8v)) := hown7
              have B7 : Hid (Below w6.heap.size w6 w7) := A6.out.trans hb7
              have HM7 := Lib.hid (HM6.out.below B7.out)
              have G7 : Hid (Gr W w7) := Gr.trans G6.out B7.out
              obtain ⟨aw, cw, hv7, _, hcw⟩ := (own_rd O7.out).shape
              subst hv7
              have V7 : Hid (Bs w7 (.slice aw m2 cw) x2) := by
                have := own_rd O7.out
                show Bs _ _ _
                unfold Bs
                rw [HX2.out]
                exact this
              have HLT7 := Lib.hid O7.out.lt
              have HLOW7 := Lib.hid (V7.out.low HX2.out)
              have hs6 : W.heap.size ≤ w6.heap.size := G6.out.size
              have hgi6 : gi < w6.heap.size := HM6.out.2.1.lt
              have hm6 : m < w6.heap.size := (Array.getElem?_eq_some_iff.1 HM6.out.1).1
              have hgo6 : go < w6.heap.size := HM6.out.2.2.1.lt
              have hs7 : w6.heap.size ≤ w7.heap.size := B7.out.size
              clear hown7 hb7 A6 E6 P6 S6 tm6 HM6 G6 hcw
              go_wp2_with fail
              refine (mac_new_any a0 m0 c0 x0 HX0.out w7 (HU0.out.below G7.out) (HLD.out.below G7.out) (by have := HX0.out; omega)).mono ?_
              rintro e w8 ⟨m', gi', go', rfl, hm', hgi', hgo', hh8, hb8⟩
              have HN8 := Lib.hid hh8
              have HM8 := Lib.hid (HM7.out.below hb8)
              have G8 : Hid (Gr W w8) := Gr.trans G7.out hb8
              have O8 := Lib.hid (ownsRow_below O7.out hb8)
              have V8 := Lib.hid (V7.out.below hb8)
              have HOFF8 : Hid (0 < m2 → Off gi' aw) := fun h0 ad had => by have := HLOW7.out h0 ad had; omega
              have hMlt : m < w7.heap.size := (Array.getElem?_eq_some_iff.1 HM7.out.1).1
              have hglt : go < w7.heap.size := HM7.out.2.2.1.lt
              clear hh8 hb8 O7 V7 HM7 B7 G7
              go_wp2_with fail
              refine (mac_add_any m' gi' go' x0 [] w8 HN8.out (HLD.out.below G8.out) (by omega) aw m2 cw x2 HX2.out V8.out HOFF8.out (by have := HX2.out; simp; omega)).mono ?_
              rintro e w9 ⟨rfl, hh9, ho9⟩
              rw [List.nil_append] at hh9
              have HQ : Hid (Below W.heap.size W w9 ∧ MacAt w9 m gi go ot x2 ∧ MacAt w9 m' gi' go' x0 x2 ∧ KT w9 w6.heap.size (.slice aw m2 cw) x2 0) := by
                refine ⟨ho9.below _ _ (by omega) G8.out, HM8.out.only ho9 (by omega) (by omega) (by omega), hh9, ?_⟩
                unfold KT
                rw [turnK_zero, HX2.out]
                refine ownsRow_only O8.out ho9 ?_
                intro hob
                have := (HLT7.out _ hob).2
                omega
              clear hh9 ho9 O8 V8 HM8 HN8 G8
              go_wp2
              go_loopw [15] (fun i15 wr => ∃ k : Nat, k ≤ m2 ∧ i15 = .int .i64 (k : Int) ∧ Hid (Below W.heap.size W wr ∧ MacAt wr m gi go ot x2 ∧ MacAt wr m' gi' go' x0 x2 ∧ KT wr w6.heap.size (.slice aw m2 cw) x2 k)) (fun i15 _ => m2 - (intOf i15).toNat)
              case atStart => exact ⟨0, by omega, rfl, HQ⟩
              case round =>
                clear HQ
                obtain ⟨k, hk, rfl, HQ⟩ := hrel
                by_cases hlt3 : k < m2
                · have hk2 : k < x2.length := by have := HX2.out; omega
                  obtain ⟨g, hav, hgB⟩ := HQ.out.2.2.2.some_at (by omega)
                  have hgl : g < w7.heap.size := HLOW7.out (by omega) _ hav
                  subst hav
                  obtain ⟨cc, cf, hnx⟩ := HQ.out.2.2.2.at hk2 HX2.out
                  have hx8 := UInt8.toNat_lt x2[k]
                  obtain ⟨x, hx⟩ : ∃ x, x = x2[k].toNat := ⟨_, rfl⟩
                  rw [← hx] at cc hnx hx8
                  have e1 := u8_xor_nat x 255 hx8 (by decide)
                  obtain ⟨z, hz⟩ : ∃ z, z = x ^^^ 255 := ⟨_, rfl⟩
                  rw [← hz] at e1 hnx
                  have e2 : bits .xor .u8 (x : Int) 255 = (z : Int) := e1
                  have hne1 : m ≠ g := by omega
                  have hne2 : gi ≠ g := by omega
                  have hne3 : go ≠ g := by omega
                  have hne4 : m' ≠ g := by omega
                  have hne5 : gi' ≠ g := by omega
                  have hne6 : go' ≠ g := by omega
                  have HQ2 : Hid (Below W.heap.size W (wr.setCell ⟨g, k, none⟩ (.int .u8 (z : Int))) ∧ MacAt (wr.setCell ⟨g, k, none⟩ (.int .u8 (z : Int))) m gi go ot x2 ∧ MacAt (wr.setCell ⟨g, k, none⟩ (.int .u8 (z : Int))) m' gi' go' x0 x2 ∧ KT (wr.setCell ⟨g, k, none⟩ (.int .u8 (z : Int))) w6.heap.size (.slice (some ⟨g, 0, none⟩) m2 cw) x2 (k + 1)) :=
                    ⟨Below.setCell HQ.out.1 (by show W.heap.size ≤ g; omega) _, HQ.out.2.1.only (Only.setCell _ _ _) hne1 hne2 hne3, HQ.out.2.2.1.only (Only.setCell _ _ _) hne4 hne5 hne6, hnx⟩
                  clear hnx hx hz e1
                  go_wp2
                  go_roundw
                  case rel =>
                    first | exact ⟨k + 1, by omega, by go_num, HQ2⟩ | ((repeat apply Exists.intro); exact ⟨⟨k + 1, by omega, by go_num, HQ2⟩, rfl⟩)
                  case measure => simp [intOf]; omega
                · obtain rfl : k = m2 := by omega
                  have G10 : Hid (Gr W wr) := HQ.out.1
                  have HM10 := Lib.hid HQ.out.2.1
                  have HN10 := Lib.hid HQ.out.2.2.1
                  have HS1 := Lib.hid (mac_sum_any m gi go ot x2 wr HM10.out (HLD.out.below G10.out) (by have := HX2.out; omega))
                  rw [HKEY.out] at HS1
                  clear HQ hlt3
                  go_wp2_with fail
                  refine (HS1.out).mono ?_
                  rintro e w11 ⟨rfl, hb11⟩
                  have HM11 := Lib.hid (HM10.out.below hb11)
                  have HN11 := Lib.hid (HN10.out.below hb11)
                  have G11 : Hid (Gr W w11) := Gr.trans G10.out hb11
                  clear hb11
                  go_wp2_with fail
                  refine (HS.out _ G11.out).mono ?_
                  rintro e w12 ⟨rfl, hb12⟩
                  have HM12 := Lib.hid (HM11.out.below hb12)
                  have HN12 := Lib.hid (HN11.out.below hb12)
                  have G12 : Hid (Gr W w12) := Gr.trans G11.out hb12
                  have HS2 := Lib.hid (mac_sum_any m' gi' go' x0 x2 w12 HN12.out (HLD.out.below G12.out) (by have := HX2.out; omega))
                  rw [← HY.out] at HS2
                  clear hb12
                  go_wp2_with fail
                  refine (HS2.out).mono ?_
                  rintro e w13 ⟨rfl, hb13⟩
                  have HM13 := Lib.hid (HM12.out.below hb13)
                  have G13 : Hid (Gr W w13) := Gr.trans G12.out hb13
                  have HS3 := Lib.hid (mac_sum_any m gi go ot x2 w13 HM13.out (HLD.out.below G13.out) (by have := HX2.out; omega))
                  rw [HKEY.out] at HS3
                  clear hb13
                  go_wp2_with fail
                  refine (HS3.out).mono ?_
                  rintro e w14 ⟨rfl, hb14⟩
                  have G14 : Hid (Gr W w14) := Gr.trans G13.out hb14
                  clear hb14
                  have tk14 := TK.out w14 G14.out
                  have tm14 := TM.out w14 G14.out
                  have HA := Lib.hid (awake_any w14 (HLD.out.below G14.out))
                  go_wp2_with (go_at_call 15; refine HA.out.mono ?_; rintro e w15 ⟨rfl, hb15⟩)
                  go_ret
                  exact ⟨rfl, Gr.trans G14.out hb15⟩

theorem own : ownKnob Tryd.prog.godebug = none := by kernel_rfl
theorem laidOut : laidOutB Tryd.prog = true := by kernel_rfl
theorem door_met (os : Os) (args : Array Value) : laidMetH Tryd.prog Rows.hmacKeysRow.laid ((World.doorLaid Tryd.prog 400 os).forCall (fun _ _ => 0) ⟨#[], args, []⟩).memory :=
  laidMetH_of_parts3 (fuel := 8) (laidMet_of_run' 8 (by kernel_rfl) (by kernel_rfl)) (by kernel_rfl) (by kernel_rfl)
set_option maxRecDepth 100000 in
theorem lifted (os : Os) (started : os.Started) (H : Type) (enc : TypeId × Value → H) :
    ReturnsInHanded {} Tryd.checked os 6 .any (fun w args => (Rows.hmacKeysSpec.pre enc Tryd.prog Tryd.f6 [] false w args ∧ laidMetH Tryd.prog Rows.hmacKeysRow.laid w) ∧ sizedMet enc Tryd.prog Tryd.f6 (OpenSpec.ofChange Rows.hmacKeysSpec) false w args) (Rows.hmacKeysSpec.post enc Tryd.prog Tryd.f6 false true false false) := by
  refine returnsInHanded_of_change_and (C := Tryd.checked) (X := fun w _ => laidMetH Tryd.prog Rows.hmacKeysRow.laid w) (fun _ _ _ hh h => h.of_heap hh) own started (by kernel_rfl) Tryd.func6
    (ChangeSpec.witness_shaped (enc := enc) (C := Tryd.checked) (os := os) (X := fun w _ => laidMetH Tryd.prog Rows.hmacKeysRow.laid w) false (World.doorLaid Tryd.prog 400 os) #[.slice none 0 0, .int .u8 0, .slice none 0 0] 8 rfl (World.shaped_of_RefB (by kernel_rfl) (by kernel_rfl)) (by kernel_rfl) (by kernel_rfl) (by kernel_rfl) (door_met os _)) ?_
  intro W base args ds gs before hval0 hW _ _ hL _
  have hval : ∀ (j : Nat) t v, Tryd.f6.params[j]? = some t → args[j]? = some v → Value.okWide Tryd.prog W .any base t v := hval0
  have hW' := hW
  obtain ⟨p, q, hA0, hV, rfl, hfz, hnd⟩ := hW
  have hA : DataW.TrodAll enc Tryd.prog W 0 (fun _ => true) true Tryd.f6.params.toList args.toList ds p := hA0
  rw [Tryd.params6] at hA hval
  obtain ⟨v0, vs0, d0, ds0, p0, q0, hargs, rfl, rfl, h0, r0⟩ := trodAll_cons hA
  obtain ⟨v1, vs1, d1, ds1, p1, q1, rfl, rfl, rfl, h1, r1⟩ := trodAll_cons r0
  obtain ⟨v2, vs2, d2, ds2, p2, q2, rfl, rfl, rfl, h2, r2⟩ := trodAll_cons r1
  obtain ⟨rfl, rfl, rfl⟩ := trodAll_nil r2
  obtain rfl : args = #[v0, v1, v2] := by cases args; simp_all
  obtain ⟨rfl, rfl⟩ := trodVars_none hV
  have k0 := h0
  have lt0 : ∀ x ∈ p0, x.block < W.heap.size := by obtain ⟨m, hm⟩ := k0; exact DataW.trod_lt m _ _ _ hm
  obtain ⟨a0, n0, c0, l0, rfl, hn0, b0⟩ := open_bytes Tryd.underlying22 Tryd.underlying5 (by kernel_rfl) (hval 0 22 v0 rfl rfl) h0
  have k1 := h1
  have lt1 : ∀ x ∈ p1, x.block < W.heap.size := by obtain ⟨m, hm⟩ := k1; exact DataW.trod_lt m _ _ _ hm
  obtain ⟨a1, rfl, rfl, rfl, w1⟩ := open_int Tryd.underlying5 (hval 1 5 v1 rfl rfl) h1
  have k2 := h2
  have lt2 : ∀ x ∈ p2, x.block < W.heap.size := by obtain ⟨m, hm⟩ := k2; exact DataW.trod_lt m _ _ _ hm
  obtain ⟨a2, n2, c2, l2, rfl, hn2, b2⟩ := open_bytes Tryd.underlying22 Tryd.underlying5 (by kernel_rfl) (hval 2 22 v2 rfl rfl) h2
  clear hA0 hval0
  refine (walk W (of_laid hL) a0 n0 c0 l0 hn0 b0 a1 w1 a2 n2 c2 l2 hn2 b2).mono fun e W' ⟨he, bel⟩ => ?_
  subst he
  exact ⟨_, rfl, _, _, _, [], _, [], hW', trodAll_mk1 (shut_bool Tryd.underlying4 _), (trodAll_cons_mk (Below.trod laidOut (by kernel_rfl) (of_decide_eq_true (by kernel_rfl)) k0 bel lt0) (trodAll_cons_mk (Below.trod laidOut (by kernel_rfl) (of_decide_eq_true (by kernel_rfl)) k1 bel lt1) (trodAll_cons_mk (Below.trod laidOut (by kernel_rfl) (of_decide_eq_true (by kernel_rfl)) k2 bel lt2) trodAll_mk0))), rfl, bel.frame _, fun h => by cases h⟩
theorem over : Rows.hmacKeysRow.holds Tryd.pinned (OpenSpec.ofChange Rows.hmacKeysSpec) :=
  OpenClaim.holds_of_wide 6 Tryd.f6 rfl rfl rfl rfl rfl rfl rfl ⟨rfl, rfl, rfl, rfl, rfl⟩ rfl rfl rfl rfl rfl (by kernel_rfl) Tryd.func6 (by kernel_rfl)
    (of_decide_eq_true (by kernel_rfl)) (by unfold Func.isWrapper; first | (rw [if_pos (by decide +kernel)]; kernel_rfl) | (rw [if_neg (by decide +kernel)]; exact ⟨rfl, rfl⟩))
    (fun os started H enc _ => lifted os started H enc)
/-- The statement: the tied card. -/
theorem proved : Rows.HmacKeysCardSaid :=
  Claim7.holds_tied_plain_at .later [] [.data] true (true, "9abe32846175d7d928e091f7b03d119c43aa96f6037755fc8c775b6f4729cb41") false over (fun _ h => by cases h) (by kernel_rfl) (fun _ h => by cases h) hmacKeys_row_tie rfl ⟨rfl, rfl⟩ (by kernel_rfl) rfl
    (fun f fn hf hfn => by
      obtain rfl : f = 6 := Option.some.inj ((show Tryd.prog.funcNamed "concierge/conciergelaw03.HmacKeys" = some 6 by kernel_rfl).symm.trans hf) |>.symm
      obtain rfl : fn = Tryd.f6 := (Option.some.inj (Tryd.func6.symm.trans hfn)).symm
      exact ⟨by kernel_rfl, fun j t ht => by
        rw [Tryd.params6] at ht
        have hm : t ∈ [22, 5, 22] := by simpa using Array.mem_of_getElem? ht
        have hall : ([22, 5, 22].all fun u => !Tryd.prog.wantsStandIn u) = true := by kernel_rfl
        exact (show Tryd.prog.wantsStandIn t = false by simpa using List.all_eq_true.1 hall t hm)⟩)
    (by kernel_rfl)
end Go.Proofs.YtjlebchbfadkoaaDoor.hmacKeys
