/-
  For every slice of bytes the sum of its whole blocks (of its first 400 bytes) is what their steps, and that of what stands behind them, make (conciergelaw02.ShaBlocks answers true). The listed table of constants is tied to the program's text. No condition.
-/
import Derived.Test.YtagfgkhadmoboaaDoorShaN
import Derived.ProofKit
import Derived.OpenShut
import Derived.ShutString
import Derived.ChangeOld
import Derived.SevenTiedAt
namespace Go.Proofs.YtagfgkhadmoboaaDoor.shaBlocks
open Go.ChangeShapes Go.WideShapes Go.ChangeAt Go.RowKit
open Go.ChangeMaps (open_string shut_string)
set_option linter.unusedVariables false
set_option linter.unusedSimpArgs false

/-- What the loop holds: the state, the row of all bytes. -/
def BS (w wr : World) (gs ga : Nat) (S : St) (all : List UInt8) : Prop :=
  Below w.heap.size w wr ∧ wr.heap[gs]? = some (.cells S.cells.toArray 23 (0, 0)) ∧
  (∀ i (hi : i < all.length), wr.cell? ⟨ga, i, none⟩ = some (.int .u8 (all[i].toNat : Int))) ∧ w.heap.size ≤ gs ∧ ga ≠ gs
theorem BS.below {w wr w1 : World} {gs ga : Nat} {S : St} {all : List UInt8} (h : BS w wr gs ga S all) (hb : Below wr.heap.size wr w1) : BS w w1 gs ga S all := by
  obtain ⟨h1, h3, h4, h5, h6⟩ := h
  exact ⟨h1.trans (hb.mono h1.size), heap_below h3 hb, fun i hi => cell_gr hb (h4 i hi), h5, h6⟩
theorem BS.only {w wr w1 : World} {gs ga g : Nat} {S : St} {all : List UInt8} (h : BS w wr gs ga S all) (ho : Only g wr w1) (hg : w.heap.size < g) (h1 : g ≠ gs) (h2 : g ≠ ga) : BS w w1 gs ga S all := by
  obtain ⟨k1, k3, k4, k5, k6⟩ := h
  exact ⟨ho.below _ _ (by omega) k1, by rw [ho.heap _ (Array.getElem?_eq_some_iff.1 k3).1 (by omega)]; exact k3, fun i hi => ho.cell (by show ga ≠ g; omega) (k4 i hi), k5, k6⟩
theorem BS.turn {w wr w1 : World} {gs ga : Nat} {S T : St} {all : List UInt8} (h : BS w wr gs ga S all) (h1 : w1.heap[gs]? = some (.cells T.cells.toArray 23 (0, 0))) (h2 : ∀ B w0, B ≤ gs → Below B w0 wr → Below B w0 w1) (h3 : ∀ k, k ≠ gs → w1.heap[k]? = wr.heap[k]?) : BS w w1 gs ga T all := by
  obtain ⟨k1, k3, k4, k5, k6⟩ := h
  exact ⟨h2 _ _ (by omega) k1, h1, fun i hi => by rw [World.cell?_of_block (w := wr) (h3 ga k6)]; exact k4 i hi, k5, k6⟩

set_option maxRecDepth 100000 in
set_option maxHeartbeats 4000000 in
theorem walk (W : World) (hL : Laid W) (a0 : Option Addr) (n0 c0 : Nat) (l0 : List UInt8) (hn0 : l0.length = n0) (b0 : Bs W (.slice a0 n0 c0) l0) :
    Calls Tryd.prog 7 #[.slice a0 n0 c0] W fun e w' => e = .returned (.bool true) ∧ Below W.heap.size W w' := by
  obtain ⟨_, _, es0, hc0, hm0⟩ := b0.shape
  simp only [Value.slice.injEq] at es0
  obtain ⟨rfl, z0, rfl⟩ := es0
  clear z0
  obtain ⟨i0, hi, hz0, hz1, hz2⟩ := info_parts info5
  have HC0 := Lib.hid (fun w => cut_any a0 n0 c0 w (by omega) hm0)
  obtain ⟨m0, e0⟩ : ∃ m, m = min n0 400 := ⟨_, rfl⟩
  have em : m0 ≤ 400 := by omega
  obtain ⟨q, hq⟩ : ∃ q, q = m0 / 64 := ⟨_, rfl⟩
  have hqm : q * 64 ≤ m0 := by omega
  have eq1 : (m0 : Int) / 64 = (q : Int) := by omega
  have u0 := b0.upto hn0 m0 (by omega)
  have g0 : (l0.take m0).length = m0 := by rw [List.length_take]; omega
  obtain ⟨ao, hrun, hrd⟩ := slice_upto Tryd.underlying29 hi hz1 (show Rd W 1 (.slice a0 m0 c0) m0 ((l0.take m0).map u8v) by unfold Bs at u0; rw [g0] at u0; exact u0) .i64 ((q : Int) * 64) (q * 64) (by omega) hqm
  obtain ⟨x, hx⟩ : ∃ x, x = (l0.take m0).take (q * 64) := ⟨_, rfl⟩
  have hxl : x.length = q * 64 := by rw [hx, List.length_take]; omega
  have u1 : Bs W (.slice ao (q * 64) c0) x := by
    unfold Bs
    rw [hxl, hx]
    simpa [List.map_take] using hrd
  rw [← e0] at HC0
  have HXL := Lib.hid hxl
  have HU := Lib.hid u1
  have HLD := Lib.hid hL
  have HW0 : 0 < W.heap.size := hL.1
  have hx400 : x.length ≤ 400 := by omega
  clear e0 hx b0 hm0 hc0 hn0 hL u0 g0 hrd u1 hq hxl
  go_enter Tryd.func7, Tryd.ntmps7
  go_wp2_with fail
  refine (HC0.out _).mono ?_
  rintro e w' ⟨rfl, rfl⟩
  have E6 := Lib.hid (own_empty W 5)
  have A6 : Hid (Below W.heap.size W (W.alloc (.cells #[] 5))) := (Below.refl _ _).alloc (Nat.le_refl _) _
  have P6 := Lib.hid (HU.out.below A6.out)
  have S6 : Hid (W.heap.size ≤ (W.alloc (.cells #[] 5)).heap.size) := A6.out.size
  go_wp2_with (at_builtin; refine wpList_append_rd _ rfl _ _ 29 rfl W.heap.size 5 i0 (.int .u8 0) 1 1 Tryd.underlying29 hi hz0 hz1 hz2 rfl (by decide) _ 0 [] rfl E6.out _ _ _ rfl P6.out (oneCell_u8 _) ?o2 (by decide) S6.out ?_)
  case o2 => omega
  intro v3 w3 hown3 hb3
  have B3 : Hid (Below W.heap.size W w3) := A6.out.trans hb3
  have O3 := Lib.hid hown3
  clear hown3 hb3 E6 A6 P6 S6
  go_wp2_with fail
  refine (behind_any x.length (by omega) _ (.inl (by rw [HXL.out]; simp)) w3).mono ?_
  rintro e w4 ⟨v4, rfl, hv4, hb4⟩
  have O4 := Lib.hid (ownsRow_below O3.out hb4)
  have B4 : Hid (Below W.heap.size W w4) := B3.out.trans (hb4.mono B3.out.size)
  have S4 : Hid (W.heap.size ≤ w4.heap.size) := B4.out.size
  have V4 := Lib.hid hv4.bs
  have HZ := Lib.hid (zerosN_lt x.length)
  clear hv4 hb4 O3
  go_wp2_with (at_builtin; refine wpList_append_rd _ rfl _ _ 29 rfl W.heap.size 5 i0 (.int .u8 0) 1 1 Tryd.underlying29 hi hz0 hz1 hz2 rfl (by decide) _ _ _ rfl O4.out _ _ _ rfl V4.out (oneCell_u8 _) ?p2 (by decide) S4.out ?_)
  case p2 => have := behindL_length x.length; have := HZ.out; omega
  intro v5 w5 hown5 hb5
  obtain ⟨all, hall⟩ : ∃ all, all = x ++ behindL x.length := ⟨_, rfl⟩
  have hlen : all.length = x.length + (behindL x.length).length := by rw [hall, List.length_append]
  have hN64 : all.length % 64 = 0 := by rw [hall]; exact behindL_fit x
  have hN0 : 0 < all.length := by rw [hlen, behindL_length]; omega
  have hNb : all.length < 1000 := by rw [hlen, behindL_length]; have := HZ.out; omega
  have hm : x.map u8v ++ (behindL x.length).map u8v = all.map u8v := by rw [hall]; simp
  rw [hm, ← hlen] at hown5
  obtain ⟨ga, ca, rfl, hga, hgas, hac⟩ := own_at hown5 hN0
  have HA5 := Lib.hid hac
  have B5 : Hid (Below W.heap.size W w5) := B4.out.trans hb5
  have HALL := Lib.hid hall
  have HN64 := Lib.hid hN64
  have hne : (((all.length : Int) % 64) != 0) = false := by simp only [bne_eq_false_iff_eq]; omega
  clear hall hlen hm hown5 hb5 hac hN64 O4 S4 V4
  go_wp2_with fail
  refine (awake_any w5 (HLD.out.below B5.out)).mono ?_
  rintro e w6 ⟨rfl, hb6⟩
  have B6 : Hid (Below W.heap.size W w6) := B5.out.trans (hb6.mono B5.out.size)
  have HA6 : Hid (∀ i (hi : i < all.length), w6.cell? ⟨ga, i, none⟩ = some (.int .u8 (all[i].toNat : Int))) := fun i hi => cell_gr hb6 (HA5.out i hi)
  clear hb6 HA5
  go_wp2_with fail
  refine (begin_cells w6).mono ?_
  rintro e w7 ⟨rfl, hb7⟩
  have B7 : Hid (Below W.heap.size W w7) := B6.out.trans (hb7.mono B6.out.size)
  have HA7 : Hid (∀ i (hi : i < all.length), w7.cell? ⟨ga, i, none⟩ = some (.int .u8 (all[i].toNat : Int))) := fun i hi => cell_gr hb7 (HA6.out i hi)
  have hga7 : ga < w7.heap.size := World.block_lt_of_cell? w7 _ (HA7.out 0 hN0)
  clear hb7 HA6
  go_wp2_with (with_reducible refine wpList_store_row rfl 23 (.tmp 4) (.tmp 33) rfl w7.heap.size st0.cells.toArray rfl rfl 23 (List.replicate 8 (Value.int .u32 0)).toArray (heap_alloc_last _ _) ?a1 ?a2 ?a3 ?_)
  case a1 => exact size8
  case a2 => rfl
  case a3 => exact one_words st0.list
  intro w8 h1 h2 h3
  obtain ⟨gs, hgs⟩ : ∃ gs, gs = w7.heap.size := ⟨_, rfl⟩
  rw [← hgs] at h1 h2 h3 ⊢
  have HR : Hid (BS W w8 gs ga (st0.run 0 all) all) := by
    refine ⟨h2 _ _ (by have := B7.out.size; omega) (B7.out.alloc B7.out.size _), h1, fun i hi => ?_, by have := B7.out.size; omega, by omega⟩
    rw [World.cell?_of_block (w := w7.alloc _) (h3 ga (by omega)), World.cell?_of_block (w := w7) (Below.heap_alloc _ _ _ (by omega))]; exact HA7.out i hi
  clear h1 h2 h3 hgs hga7 HA7 B7 B6 B5 B4 B3 hne
  go_wp2
  go_loopw [5] (fun i5 wr => ∃ j : Nat, 64 * j ≤ all.length ∧ i5 = .int .i64 (64 * (j : Int)) ∧ Hid (BS W wr gs ga (st0.run j all) all)) (fun i5 _ => all.length - (intOf i5).toNat)
  case atStart => exact ⟨0, by omega, rfl, HR⟩
  case round =>
    clear HR
    obtain ⟨j, hj, rfl, HR⟩ := hrel
    by_cases hlt : 64 * j < all.length
    · have hj64 : 64 * j + 64 ≤ all.length := by have := HN64.out; omega
      have hbl : ((all.drop (64 * j)).take 64).length = 64 := by rw [List.length_take, List.length_drop]; omega
      obtain ⟨blk, hblk⟩ : ∃ blk, blk = (all.drop (64 * j)).take 64 := ⟨_, rfl⟩
      rw [← hblk] at hbl
      have HBLK := Lib.hid hblk
      have HBL := Lib.hid hbl
      obtain ⟨gb, hgb⟩ : ∃ gb, gb = wr.heap.size := ⟨_, rfl⟩
      have hgsb : gs < gb := by rw [hgb]; exact (Array.getElem?_eq_some_iff.1 HR.out.2.1).1
      have hgab : ga < gb := by rw [hgb]; exact World.block_lt_of_cell? wr _ (HR.out.2.2.1 0 hN0)
      have hwb : W.heap.size < gb := by have := HR.out.2.2.2.1; omega
      have HQ : Hid (BS W (wr.alloc (.cells (List.replicate 64 (Value.int .u8 0)).toArray 24)) gs ga (st0.run j all) all ∧ (wr.alloc (.cells (List.replicate 64 (Value.int .u8 0)).toArray 24)).heap[gb]? = some (.cells (upto blk 64 0).toArray 24 (0, 0))) := by
        refine ⟨HR.out.below ((Below.refl _ _).alloc (Nat.le_refl _) _), ?_⟩
        rw [hgb, heap_alloc_last, upto_zero]
      clear hblk hbl
      go_wp2
      rw [← hgb]
      clear hgb
      go_loopw [7] (fun k7 wq => ∃ k : Nat, k ≤ 64 ∧ k7 = .int .i64 (k : Int) ∧ Hid (BS W wq gs ga (st0.run j all) all ∧ wq.heap[gb]? = some (.cells (upto blk 64 k).toArray 24 (0, 0)))) (fun k7 _ => 64 - (intOf k7).toNat)
      case atStart => exact ⟨0, by omega, rfl, HQ⟩
      case round =>
        clear HQ HR
        obtain ⟨k, hk, rfl, HQ⟩ := hrel
        by_cases hlt2 : k < 64
        · have c0 := HQ.out.1.2.2.1 (64 * j + k) (by omega)
          have f0 : wr.frozen? ⟨gb, k, none⟩ = false := frozen_of_row _ _ _ _ _ HQ.out.2
          have c1 : wr.cell? ⟨gb, k, none⟩ = some (.int .u8 0) := by
            rw [cell_of_row _ _ _ _ _ _ HQ.out.2]
            simpa using upto_at blk 64 k HBL.out hlt2
          obtain ⟨b, hb⟩ : ∃ b, b = all[64 * j + k]'(by omega) := ⟨_, rfl⟩
          rw [← hb] at c0
          have hb2 : blk[k]? = some b := by
            rw [HBLK.out, List.getElem?_take, if_pos hlt2, List.getElem?_drop, hb]
            exact List.getElem?_eq_getElem _
          have HQ2 : Hid (BS W (wr.setCell ⟨gb, k, none⟩ (.int .u8 (b.toNat : Int))) gs ga (st0.run j all) all ∧ (wr.setCell ⟨gb, k, none⟩ (.int .u8 (b.toNat : Int))).heap[gb]? = some (.cells (upto blk 64 (k + 1)).toArray 24 (0, 0))) := by
            refine ⟨HQ.out.1.only (Only.setCell _ _ _) hwb (by omega) (by omega), ?_⟩
            rw [heap_setCell_same _ _ _ _ _ _ HQ.out.2, ← upto_set blk 64 k HBL.out hlt2 b hb2]
            simp [u8v]
          clear hb hb2
          go_wp2
          go_roundw
          case rel =>
            first | exact ⟨k + 1, by omega, by go_num, HQ2⟩ | ((repeat apply Exists.intro); exact ⟨⟨k + 1, by omega, by go_num, HQ2⟩, rfl⟩)
          case measure => simp [intOf]; omega
        · obtain rfl : k = 64 := by omega
          have g1 := HQ.out.2
          rw [upto_full _ _ HBL.out] at g1
          have HRB := Lib.hid (range_of_row g1)
          have HRS := Lib.hid (range_of_row HQ.out.1.2.1)
          have HSB : Hid ((Tryd.prog.info? 24).map (·.size) = some (blk.map u8v).length) := by
            show _ = _
            rw [List.length_map, HBL.out]; exact size64b
          obtain ⟨S, hS⟩ : ∃ S, S = st0.run j all := ⟨_, rfl⟩
          have HQ1 := HQ.out.1
          rw [← hS] at HRS HQ1
          have HQQ := Lib.hid HQ1
          obtain ⟨T, hT⟩ : ∃ T, T = S.step blk := ⟨_, rfl⟩
          have HST : Hid (T = st0.run (j + 1) all) := by show _ = _; rw [hT, St.run_snoc st0, ← hS, HBLK.out]
          have HSTP : Hid (∀ w, Laid w → Calls Tryd.prog 11 #[.agg S.cells.toArray, .agg (blk.map u8v).toArray] w fun e w' => e = .returned (.agg T.cells.toArray) ∧ Below w.heap.size w w') := by rw [hT]; exact step_any S blk HBL.out
          clear hT
          clear g1 hS HQ1 HQ
          go_wp2_with (first | (with_reducible refine wpList_load_mid rfl 23 (.tmp 4) rfl gs 0 rfl S.cells _ HRS.out Tryd.underlying23 rfl (size8c S) ?_) | (with_reducible refine wpList_load_mid rfl 24 (.tmp 6) rfl gb 0 rfl (blk.map u8v) _ HRB.out Tryd.underlying24 rfl HSB.out ?_))
          refine (HSTP.out wr (HLD.out.below HQQ.out.1)).mono ?_
          rintro e w8 ⟨rfl, hb8⟩
          have HR8 := Lib.hid (HQQ.out.below hb8)
          have g8 := HR8.out.2.1
          have HG8 := Lib.hid g8
          clear hb8 g8
          go_wp2_with (with_reducible refine wpList_store_row rfl 23 (.tmp 4) (.tmp 54) rfl gs T.cells.toArray rfl rfl 23 S.cells.toArray HG8.out ?b1 ?b2 ?b3 ?_)
          case b1 => exact size8c _
          case b2 => rfl
          case b3 => exact one_words T.list
          intro w9 h1 h2 h3
          have HR9 : Hid (BS W w9 gs ga (st0.run (j + 1) all) all) := by
            show BS _ _ _ _ _ _
            rw [← HST.out]
            exact HR8.out.turn h1 h2 h3
          clear h1 h2 h3
          go_wp2
          go_roundw
          case rel =>
            first | exact ⟨j + 1, by omega, i64_eq (by omega), HR9⟩ | ((repeat apply Exists.intro); exact ⟨⟨j + 1, by omega, i64_eq (by omega), HR9⟩, rfl⟩)
          case measure => simp [intOf]; omega
    · have hj2 : all.length / 64 = j := by omega
      obtain ⟨S, hS⟩ : ∃ S, S = st0.run j all := ⟨_, rfl⟩
      have HS : Hid (S = sumS x) := by show _ = _; rw [hS, ← hj2, HALL.out]; rfl
      have hr := HR.out
      rw [← hS] at hr
      have BR : Hid (Below W.heap.size W wr) := hr.1
      have HGS : Hid (wr.heap[gs]? = some (.cells S.cells.toArray 23 (0, 0))) := hr.2.1
      have HSUM := Lib.hid (sum_any ao (q * 64) c0 x HXL.out wr (HU.out.below hr.1) (HLD.out.below hr.1) (by omega))
      obtain ⟨y, hy⟩ : ∃ y, y = sumL x := ⟨_, rfl⟩
      have HYB : Hid (y = S.bytes) := by show _ = _; rw [hy, HS.out]; rfl
      have HYL : Hid (y.length = 32) := by show _ = _; rw [hy]; exact sumL_length x
      rw [← hy] at HSUM
      clear hS hr HR hj2 hy HS
      go_wp2_with fail
      refine (HSUM.out).mono ?_
      rintro e w9 ⟨rfl, hb9⟩
      have B9 : Hid (Below W.heap.size W w9) := BR.out.trans (hb9.mono BR.out.size)
      have G9 := Lib.hid (heap_below HGS.out hb9)
      have hgs9 : gs < w9.heap.size := (Array.getElem?_eq_some_iff.1 G9.out).1
      clear hb9
      go_wp2_with (with_reducible refine wpList_store_row rfl 33 (.tmp 8) (.tmp 56) rfl w9.heap.size _ rfl rfl 33 z32 (heap_alloc_last _ _) ?e1 ?e2 ?e3 ?_)
      case e1 => exact size32l _ HYL.out
      case e2 => show z32.size = (y.map u8v).length; rw [List.length_map, HYL.out]; rfl
      case e3 => exact all_oneCell_toArray (oneCell_u8 _)
      intro w10 h1 h2 h3
      obtain ⟨gy, hgy⟩ : ∃ gy, gy = w9.heap.size := ⟨_, rfl⟩
      rw [← hgy] at h1 h2 h3 ⊢
      have HI : Hid (Below W.heap.size W w10 ∧ w10.heap[gs]? = some (.cells S.cells.toArray 23 (0, 0)) ∧ w10.heap[gy]? = some (.cells (y.map u8v).toArray 33 (0, 0))) := by
        refine ⟨h2 _ _ (by have := B9.out.size; omega) (B9.out.alloc B9.out.size _), ?_, h1⟩
        rw [h3 _ (by omega), Below.heap_alloc _ _ _ (by omega)]; exact G9.out
      clear h1 h2 h3 hgy hgs9 G9
      go_wp2
      go_loopw [9] (fun i9 wq => ∃ i : Nat, i ≤ 32 ∧ i9 = .int .i64 (i : Int) ∧ Hid (Below W.heap.size W wq ∧ wq.heap[gs]? = some (.cells S.cells.toArray 23 (0, 0)) ∧ wq.heap[gy]? = some (.cells (y.map u8v).toArray 33 (0, 0)))) (fun i9 _ => 32 - (intOf i9).toNat)
      case atStart => exact ⟨0, by omega, rfl, HI⟩
      case round =>
        clear HI
        obtain ⟨i, hi32, rfl, HI⟩ := hrel
        by_cases hlt2 : i < 32
        · obtain ⟨xw, hxw⟩ : ∃ xw, xw = S.list.getD (i / 4) 0 := ⟨_, rfl⟩
          have k0 : ∀ w', Gr wr.drew w' → w'.cell? ⟨gs, i / 4, none⟩ = some (u32v xw) := fun w' hg => by
            rw [cell_of_row _ _ _ _ _ _ (heap_gr ((Gr.drew wr).trans hg) HI.out.2.1), hxw]
            have : i / 4 < S.list.length := by show i / 4 < 8; omega
            simp [St.cells, this]
          obtain ⟨b, hb⟩ : ∃ b, b = UInt8.ofNat (xw.toNat / 256 ^ (3 - i % 4)) := ⟨_, rfl⟩
          have k1 : ∀ w', Gr wr.drew w' → w'.cell? ⟨gy, i, none⟩ = some (.int .u8 (b.toNat : Int)) := fun w' hg => by
            rw [cell_of_row _ _ _ _ _ _ (heap_gr ((Gr.drew wr).trans hg) HI.out.2.2)]
            have : y[i]? = some b := by rw [HYB.out, bytes_get S i hlt2, ← hxw, hb]
            simp [this, u8v]
          obtain ⟨m, hm⟩ : ∃ m, m = 24 - 8 * (i % 4) := ⟨_, rfl⟩
          have m32 : m < 32 := by omega
          have hbv : IntKind.u8.wrap (iv xw / 2 ^ m) = (b.toNat : Int) := by
            have e : (256 : Nat) ^ (3 - i % 4) = 2 ^ m := by
              rw [show (256 : Nat) = 2 ^ 8 by rfl, ← Nat.pow_mul]; congr 1; omega
            rw [hb, e, IntKind.wrap_u8', UInt8.toNat_ofNat']
            unfold iv
            rw [show ((2 : Int) ^ m) = ((2 ^ m : Nat) : Int) by simp, ← Int.natCast_ediv]
            omega
          have q0 : (i : Int) < 32 := by omega
          have d1 : (i : Int).tdiv 4 = ((i / 4 : Nat) : Int) := by rw [Int.tdiv_eq_ediv_of_nonneg (by omega)]; omega
          have d2 : (i : Int).tmod 4 = ((i % 4 : Nat) : Int) := by rw [Int.tmod_eq_emod_of_nonneg (by omega)]; omega
          obtain ⟨i4, hi4⟩ : ∃ i4, i4 = i / 4 := ⟨_, rfl⟩
          obtain ⟨r4, hr4⟩ : ∃ r4, r4 = i % 4 := ⟨_, rfl⟩
          rw [← hi4] at d1 k0
          rw [← hr4] at d2 hm
          have q4 : (i4 : Int) < 8 := by omega
          have w1' : IntKind.i64.wrap (i4 : Int) = (i4 : Int) := IntWalk.i64_in _ (by omega)
          have w2' : IntKind.i64.wrap (r4 : Int) = (r4 : Int) := IntWalk.i64_in _ (by omega)
          have w3' : IntKind.i64.wrap (8 * (r4 : Int)) = 8 * (r4 : Int) := IntWalk.i64_in _ (by omega)
          have w4' : IntKind.i64.wrap (24 - 8 * (r4 : Int)) = (m : Int) := by rw [IntWalk.i64_in _ (by omega)]; omega
          have w5' : IntKind.u64.wrap (m : Int) = (m : Int) := by rw [IntKind.wrap_u64]; omega
          have wn : (((b.toNat : Int)) != (b.toNat : Int)) = false := by simp
          clear hb hxw hm hi4 hr4
          go_wp2
          refine wp_region_G 15 Gr (by kernel_rfl) ?_
          -- 0: slot 61
          refine wpG_take preGr (i := 0) (v := ?_) (by kernel_rfl) (some 61) (by kernel_rfl) rfl (by kernel_rfl) (by kernel_rfl) (by kernel_rfl) (fun _ _ _ h => h) (by rfl) (fun w' hw' => ?_) rfl ?_
          rotate_left
          · go_simp
            with_reducible rfl
          simp only [Act.put, List.setIfInBounds_toArray, List.set_cons_zero, List.set_cons_succ]
          -- 1: slot 62
          refine wpG_take preGr (i := 1) (v := ?_) (by kernel_rfl) (some 62) (by kernel_rfl) rfl (by kernel_rfl) (by kernel_rfl) (by kernel_rfl) (fun _ _ _ h => h) (by rfl) (fun w' hw' => ?_) rfl ?_
          rotate_left
          · go_simp
            with_reducible rfl
          simp only [Act.put, List.setIfInBounds_toArray, List.set_cons_zero, List.set_cons_succ]
          -- 2: slot 63
          refine wpG_take preGr (i := 2) (v := ?_) (by kernel_rfl) (some 63) (by kernel_rfl) rfl (by kernel_rfl) (by kernel_rfl) (by kernel_rfl) (fun _ _ _ h => h) (by rfl) (fun w' hw' => ?_) rfl ?_
          rotate_left
          · go_simp
            with_reducible rfl
          simp only [Act.put, List.setIfInBounds_toArray, List.set_cons_zero, List.set_cons_succ]
          -- 3: slot 64
          refine wpG_take preGr (i := 3) (v := ?_) (by kernel_rfl) (some 64) (by kernel_rfl) rfl (by kernel_rfl) (by kernel_rfl) (by kernel_rfl) (fun _ _ _ h => h) (by rfl) (fun w' hw' => ?_) rfl ?_
          rotate_left
          · go_simp
            with_reducible rfl
          simp only [Act.put, List.setIfInBounds_toArray, List.set_cons_zero, List.set_cons_succ]
          -- 4: slot 65
          refine wpG_take preGr (i := 4) (v := ?_) (by kernel_rfl) (some 65) (by kernel_rfl) rfl (by kernel_rfl) (by kernel_rfl) (by kernel_rfl) (fun _ _ _ h => h) (by rfl) (fun w' hw' => ?_) rfl ?_
          rotate_left
          · go_simp
            with_reducible rfl
          simp only [Act.put, List.setIfInBounds_toArray, List.set_cons_zero, List.set_cons_succ]
          -- 5: slot 66
          refine wpG_take preGr (i := 5) (v := ?_) (by kernel_rfl) (some 66) (by kernel_rfl) rfl (by kernel_rfl) (by kernel_rfl) (by kernel_rfl) (fun _ _ _ h => h) (by rfl) (fun w' hw' => ?_) rfl ?_
          rotate_left
          · go_simp
            with_reducible rfl
          simp only [Act.put, List.setIfInBounds_toArray, List.set_cons_zero, List.set_cons_succ]
          -- 6: slot 67
          refine wpG_take preGr (i := 6) (v := ?_) (by kernel_rfl) (some 67) (by kernel_rfl) rfl (by kernel_rfl) (by kernel_rfl) (by kernel_rfl) (fun _ _ _ h => h) (by rfl) (fun w' hw' => ?_) rfl ?_
          rotate_left
          · go_simp
            with_reducible rfl
          simp only [Act.put, List.setIfInBounds_toArray, List.set_cons_zero, List.set_cons_succ]
          -- 7: slot 68
          refine wpG_take preGr (i := 7) (v := ?_) (by kernel_rfl) (some 68) (by kernel_rfl) rfl (by kernel_rfl) (by kernel_rfl) (by kernel_rfl) (fun _ _ _ h => h) (by rfl) (fun w' hw' => ?_) rfl ?_
          rotate_left
          · go_simp
            with_reducible rfl
          simp only [Act.put, List.setIfInBounds_toArray, List.set_cons_zero, List.set_cons_succ]
          -- 8: slot 69
          refine wpG_take preGr (i := 8) (v := ?_) (by kernel_rfl) (some 69) (by kernel_rfl) rfl (by kernel_rfl) (by kernel_rfl) (by kernel_rfl) (fun _ _ _ h => h) (by rfl) (fun w' hw' => ?_) rfl ?_
          rotate_left
          · go_simp
            with_reducible rfl
          simp only [Act.put, List.setIfInBounds_toArray, List.set_cons_zero, List.set_cons_succ]
          -- 9: slot 70
          refine wpG_take preGr (i := 9) (v := ?_) (by kernel_rfl) (some 70) (by kernel_rfl) rfl (by kernel_rfl) (by kernel_rfl) (by kernel_rfl) (fun _ _ _ h => h) (by rfl) (fun w' hw' => ?_) rfl ?_
          rotate_left
          · go_simp
            with_reducible rfl
          simp only [Act.put, List.setIfInBounds_toArray, List.set_cons_zero, List.set_cons_succ]
          -- 10: slot 71
          refine wpG_take preGr (i := 10) (v := ?_) (by kernel_rfl) (some 71) (by kernel_rfl) rfl (by kernel_rfl) (by kernel_rfl) (by kernel_rfl) (fun _ _ _ h => h) (by rfl) (fun w' hw' => ?_) rfl ?_
          rotate_left
          · go_simp
            with_reducible rfl
          simp only [Act.put, List.setIfInBounds_toArray, List.set_cons_zero, List.set_cons_succ]
          -- 11: slot 72
          refine wpG_take preGr (i := 11) (v := ?_) (by kernel_rfl) (some 72) (by kernel_rfl) rfl (by kernel_rfl) (by kernel_rfl) (by kernel_rfl) (fun _ _ _ h => h) (by rfl) (fun w' hw' => ?_) rfl ?_
          rotate_left
          · go_simp
            with_reducible rfl
          simp only [Act.put, List.setIfInBounds_toArray, List.set_cons_zero, List.set_cons_succ]
          -- 12: slot 73
          refine wpG_take preGr (i := 12) (v := ?_) (by kernel_rfl) (some 73) (by kernel_rfl) rfl (by kernel_rfl) (by kernel_rfl) (by kernel_rfl) (fun _ _ _ h => h) (by rfl) (fun w' hw' => ?_) rfl ?_
          rotate_left
          · go_simp
            with_reducible rfl
          simp only [Act.put, List.setIfInBounds_toArray, List.set_cons_zero, List.set_cons_succ]
          -- 13: slot 74
          refine wpG_take preGr (i := 13) (v := ?_) (by kernel_rfl) (some 74) (by kernel_rfl) rfl (by kernel_rfl) (by kernel_rfl) (by kernel_rfl) (fun _ _ _ h => h) (by rfl) (fun w' hw' => ?_) rfl ?_
          rotate_left
          · go_simp
            with_reducible rfl
          simp only [Act.put, List.setIfInBounds_toArray, List.set_cons_zero, List.set_cons_succ]
          -- 14: slot 75
          refine wpG_take preGr (i := 14) (v := ?_) (by kernel_rfl) (some 75) (by kernel_rfl) rfl (by kernel_rfl) (by kernel_rfl) (by kernel_rfl) (fun _ _ _ h => h) (by rfl) (fun w' hw' => ?_) rfl ?_
          rotate_left
          · go_simp
            with_reducible rfl
          simp only [Act.put, List.setIfInBounds_toArray, List.set_cons_zero, List.set_cons_succ]
          refine wpG_done (by kernel_rfl) ?_ _
          have HI2 : Hid (Below W.heap.size W wr.drew ∧ wr.drew.heap[gs]? = some (.cells S.cells.toArray 23 (0, 0)) ∧ wr.drew.heap[gy]? = some (.cells (y.map u8v).toArray 33 (0, 0))) := ⟨HI.out.1.drew, by rw [heap_drew]; exact HI.out.2.1, by rw [heap_drew]; exact HI.out.2.2⟩
          clear k0 k1
          go_wp2
          go_roundw
          case rel =>
            first | exact ⟨i + 1, by omega, by go_num, HI2⟩ | ((repeat apply Exists.intro); exact ⟨⟨i + 1, by omega, by go_num, HI2⟩, rfl⟩)
          case measure => simp [intOf]; omega
        · obtain rfl : i = 32 := by omega
          go_wp2
          go_ret
          exact ⟨rfl, HI.out.1⟩

theorem own : ownKnob Tryd.prog.godebug = none := by kernel_rfl
theorem laidOut : laidOutB Tryd.prog = true := by kernel_rfl
theorem door_met (os : Os) (args : Array Value) : laidMetH Tryd.prog Rows.shaBlocksRow.laid ((World.doorLaid Tryd.prog 400 os).forCall (fun _ _ => 0) ⟨#[], args, []⟩).memory :=
  laidMetH_of_parts3 (fuel := 8) (laidMet_of_run' 8 (by kernel_rfl) (by kernel_rfl)) (by kernel_rfl) (by kernel_rfl)
set_option maxRecDepth 100000 in
theorem lifted (os : Os) (started : os.Started) (H : Type) (enc : TypeId × Value → H) :
    ReturnsInHanded {} Tryd.checked os 7 .any (fun w args => (Rows.shaBlocksSpec.pre enc Tryd.prog Tryd.f7 [] false w args ∧ laidMetH Tryd.prog Rows.shaBlocksRow.laid w) ∧ sizedMet enc Tryd.prog Tryd.f7 (OpenSpec.ofChange Rows.shaBlocksSpec) false w args) (Rows.shaBlocksSpec.post enc Tryd.prog Tryd.f7 false true false false) := by
  refine returnsInHanded_of_change_and (C := Tryd.checked) (X := fun w _ => laidMetH Tryd.prog Rows.shaBlocksRow.laid w) (fun _ _ _ hh h => h.of_heap hh) own started (by kernel_rfl) Tryd.func7
    (ChangeSpec.witness_shaped (enc := enc) (C := Tryd.checked) (os := os) (X := fun w _ => laidMetH Tryd.prog Rows.shaBlocksRow.laid w) false (World.doorLaid Tryd.prog 400 os) #[.slice none 0 0] 8 rfl (World.shaped_of_RefB (by kernel_rfl) (by kernel_rfl)) (by kernel_rfl) (by kernel_rfl) (by kernel_rfl) (door_met os _)) ?_
  intro W base args ds gs before hval0 hW _ _ hL _
  have hval : ∀ (j : Nat) t v, Tryd.f7.params[j]? = some t → args[j]? = some v → Value.okWide Tryd.prog W .any base t v := hval0
  have hW' := hW
  obtain ⟨p, q, hA0, hV, rfl, hfz, hnd⟩ := hW
  have hA : DataW.TrodAll enc Tryd.prog W 0 (fun _ => true) true Tryd.f7.params.toList args.toList ds p := hA0
  rw [Tryd.params7] at hA hval
  obtain ⟨v0, vs0, d0, ds0, p0, q0, hargs, rfl, rfl, h0, r0⟩ := trodAll_cons hA
  obtain ⟨rfl, rfl, rfl⟩ := trodAll_nil r0
  obtain rfl : args = #[v0] := by cases args; simp_all
  obtain ⟨rfl, rfl⟩ := trodVars_none hV
  have k0 := h0
  have lt0 : ∀ x ∈ p0, x.block < W.heap.size := by obtain ⟨m, hm⟩ := k0; exact DataW.trod_lt m _ _ _ hm
  obtain ⟨a0, n0, c0, l0, rfl, hn0, b0⟩ := open_bytes Tryd.underlying29 Tryd.underlying5 (by kernel_rfl) (hval 0 29 v0 rfl rfl) h0
  clear hA0 hval0
  refine (walk W (of_laid hL) a0 n0 c0 l0 hn0 b0).mono fun e W' ⟨he, bel⟩ => ?_
  subst he
  exact ⟨_, rfl, _, _, _, [], _, [], hW', trodAll_mk1 (shut_bool Tryd.underlying4 _), (trodAll_cons_mk (Below.trod laidOut (by kernel_rfl) (of_decide_eq_true (by kernel_rfl)) k0 bel lt0) trodAll_mk0), rfl, bel.frame _, fun h => by cases h⟩
theorem over : Rows.shaBlocksRow.holds Tryd.pinned (OpenSpec.ofChange Rows.shaBlocksSpec) :=
  OpenClaim.holds_of_wide 7 Tryd.f7 rfl rfl rfl rfl rfl rfl rfl ⟨rfl, rfl, rfl, rfl, rfl⟩ rfl rfl rfl rfl rfl (by kernel_rfl) Tryd.func7 (by kernel_rfl)
    (of_decide_eq_true (by kernel_rfl)) (by unfold Func.isWrapper; first | (rw [if_pos (by decide +kernel)]; kernel_rfl) | (rw [if_neg (by decide +kernel)]; exact ⟨rfl, rfl⟩))
    (fun os started H enc _ => lifted os started H enc)
/-- The statement: the tied card. -/
theorem proved : Rows.ShaBlocksCardSaid :=
  Claim7.holds_tied_plain_at .later [] [.data] true (true, "965a8da0ce5c2711f41dbdd53310348fca91422acffbe9034a6b03730aadf053") false over (fun _ h => by cases h) (by kernel_rfl) (fun _ h => by cases h) shaBlocks_row_tie rfl ⟨rfl, rfl⟩ (by kernel_rfl) rfl
    (fun f fn hf hfn => by
      obtain rfl : f = 7 := Option.some.inj ((show Tryd.prog.funcNamed "concierge/conciergelaw02.ShaBlocks" = some 7 by kernel_rfl).symm.trans hf) |>.symm
      obtain rfl : fn = Tryd.f7 := (Option.some.inj (Tryd.func7.symm.trans hfn)).symm
      exact ⟨by kernel_rfl, fun j t ht => by
        rw [Tryd.params7] at ht
        have hm : t ∈ [29] := by simpa using Array.mem_of_getElem? ht
        have hall : ([29].all fun u => !Tryd.prog.wantsStandIn u) = true := by kernel_rfl
        exact (show Tryd.prog.wantsStandIn t = false by simpa using List.all_eq_true.1 hall t hm)⟩)
    (by kernel_rfl)
end Go.Proofs.YtagfgkhadmoboaaDoor.shaBlocks
