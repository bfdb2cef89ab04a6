import Derived.Test.YtjlacialbfhjcaaDoorShaK
namespace Go.Proofs.YtjlacialbfhjcaaDoor
open Go.RowKit
set_option linter.unusedVariables false
set_option linter.unusedSimpArgs false

theorem i64_eq {a b : Int} (h : a = b) : Value.int .i64 a = .int .i64 b := by rw [h]
theorem own_empty (w : World) (e : TypeId) : (w.alloc (.cells #[] e)).ownsRow w.heap.size e 1 (.slice (some ⟨w.heap.size, 0, none⟩) 0 0) 0 [] :=
  ⟨rfl, .inr ⟨w.heap.size, 0, #[], rfl, Nat.le_refl _, heap_alloc_last _ _, Nat.le_refl _, by decide, rfl, rfl⟩⟩
theorem flat4 : ∀ (l : List UInt32) (i : Nat), i < 4 * l.length → (l.flatMap wordB)[i]? = (wordB (l.getD (i / 4) 0))[i % 4]?
  | [], i, h => by simp at h
  | x :: l, i, h => by
    have hw := wordB_length x
    rw [List.flatMap_cons]
    by_cases h4 : i < 4
    · rw [List.getElem?_append_left (by omega), show i / 4 = 0 by omega, show i % 4 = i by omega]
      rfl
    · rw [List.getElem?_append_right (by omega), hw, flat4 l (i - 4) (by simp at h; omega), show i / 4 = (i - 4) / 4 + 1 by omega, show (i - 4) % 4 = i % 4 by omega]
      rfl
theorem bytes_get (S : St) (i : Nat) (h : i < 32) : S.bytes[i]? = some (UInt8.ofNat ((S.list.getD (i / 4) 0).toNat / 256 ^ (3 - i % 4))) := by
  unfold St.bytes
  rw [flat4 S.list i h]
  have h4 : i % 4 < 4 := Nat.mod_lt _ (by omega)
  simp [wordB, putL, h4]
/-- The first k of a row, zeros behind. -/
def upto (x : List UInt8) (n k : Nat) : List Value := (x.take k).map u8v ++ List.replicate (n - k) (.int .u8 0)
theorem upto_length (x : List UInt8) (n k : Nat) (h : x.length = n) (hk : k ≤ n) : (upto x n k).length = n := by simp [upto]; omega
theorem upto_zero (x : List UInt8) (n : Nat) : upto x n 0 = List.replicate n (.int .u8 0) := by simp [upto]
theorem upto_full (x : List UInt8) (n : Nat) (h : x.length = n) : upto x n n = x.map u8v := by simp [upto, ← h]
theorem upto_set (x : List UInt8) (n k : Nat) (h : x.length = n) (hk : k < n) (b : UInt8) (hb : x[k]? = some b) : (upto x n k).set k (u8v b) = upto x n (k + 1) := by
  have hk' : k < x.length := by omega
  have hx : x[k] = b := by rw [List.getElem?_eq_getElem hk'] at hb; exact Option.some.inj hb
  unfold upto
  have hl : ((x.take k).map u8v).length = k := by simp; omega
  rw [List.set_append_right _ _ (by rw [hl]; exact Nat.le_refl _), hl, Nat.sub_self, show n - k = (n - (k + 1)) + 1 by omega, List.replicate_succ, List.set_cons_zero, List.take_succ_eq_append_getElem hk', hx]
  simp
theorem upto_at (x : List UInt8) (n k : Nat) (h : x.length = n) (hk : k < n) : (upto x n k)[k]? = some (.int .u8 0) := by
  have hl : ((x.take k).map u8v).length = k := by simp; omega
  unfold upto
  rw [List.getElem?_append_right (by omega), hl, Nat.sub_self]
  exact List.getElem?_replicate_of_lt (by omega)
/-- What the reference's Sum holds: the result's place, the state, the row of all bytes. -/
def RS (w wr : World) (gs ga : Nat) (S : St) (all : List UInt8) : Prop :=
  Below w.heap.size w wr ∧ wr.heap[w.heap.size]? = some (.cells z32 56 (0, 0)) ∧ wr.heap[gs]? = some (.cells S.cells.toArray 78 (0, 0)) ∧
  (∀ i (hi : i < all.length), wr.cell? ⟨ga, i, none⟩ = some (.int .u8 (all[i].toNat : Int))) ∧ w.heap.size < gs ∧ ga ≠ gs
theorem RS.below {w wr w1 : World} {gs ga : Nat} {S : St} {all : List UInt8} (h : RS w wr gs ga S all) (hb : Below wr.heap.size wr w1) : RS w w1 gs ga S all := by
  obtain ⟨h1, h2, h3, h4, h5, h6⟩ := h
  exact ⟨h1.trans (hb.mono h1.size), heap_below h2 hb, heap_below h3 hb, fun i hi => cell_gr hb (h4 i hi), h5, h6⟩
theorem RS.only {w wr w1 : World} {gs ga g : Nat} {S : St} {all : List UInt8} (h : RS w wr gs ga S all) (ho : Only g wr w1) (hg : w.heap.size < g) (h1 : g ≠ gs) (h2 : g ≠ ga) : RS w w1 gs ga S all := by
  obtain ⟨k1, k2, k3, k4, k5, k6⟩ := h
  exact ⟨ho.below _ _ (by omega) k1, by rw [ho.heap _ (Array.getElem?_eq_some_iff.1 k2).1 (by omega)]; exact k2, by rw [ho.heap _ (Array.getElem?_eq_some_iff.1 k3).1 (by omega)]; exact k3, fun i hi => ho.cell (by show ga ≠ g; omega) (k4 i hi), k5, k6⟩
theorem RS.turn {w wr w1 : World} {gs ga : Nat} {S T : St} {all : List UInt8} (h : RS w wr gs ga S all) (h1 : w1.heap[gs]? = some (.cells T.cells.toArray 78 (0, 0))) (h2 : ∀ B w0, B ≤ gs → Below B w0 wr → Below B w0 w1) (h3 : ∀ k, k ≠ gs → w1.heap[k]? = wr.heap[k]?) : RS w w1 gs ga T all := by
  obtain ⟨k1, k2, k3, k4, k5, k6⟩ := h
  exact ⟨h2 _ _ (by omega) k1, by rw [h3 _ (by omega)]; exact k2, h1, fun i hi => by rw [World.cell?_of_block (w := wr) (h3 ga k6)]; exact k4 i hi, k5, k6⟩
theorem own_at {w : World} {base n : Nat} {e : TypeId} {v : Value} {l : List UInt8} (h : w.ownsRow base e 1 v n (l.map u8v)) (hn : 0 < n) :
    ∃ g c, v = .slice (some ⟨g, 0, none⟩) n c ∧ base ≤ g ∧ g < w.heap.size ∧ ∀ i (hi : i < l.length), w.cell? ⟨g, i, none⟩ = some (.int .u8 (l[i].toNat : Int)) := by
  obtain ⟨h0, ⟨_, h2⟩ | ⟨g, cap, cur, h1, h2, h3, _, _, h4, h5⟩⟩ := h
  · omega
  · refine ⟨g, cap, h1, h2, (Array.getElem?_eq_some_iff.1 h3).1, fun i hi => ?_⟩
    rw [cell_of_row _ _ _ _ _ _ h3]
    have h6 : (l.map u8v)[i]? = some (u8v l[i]) := by simp [hi]
    rw [← h5, List.getElem?_take] at h6
    split at h6
    · simpa [u8v] using h6
    · cases h6
set_option maxRecDepth 100000 in
set_option maxHeartbeats 2000000 in
theorem rsum_any (ao : Option Addr) (n c : Nat) (l : List UInt8) (hn : l.length = n) (w : World) (hb : Bs w (.slice ao n c) l) (hl : l.length < 1099511627776) :
    Calls Tryd.prog 36 #[.slice ao n c] w fun e w' => e = .returned (.agg ((sumL l).map u8v).toArray) ∧ Below w.heap.size w w' := by
  subst hn
  obtain ⟨i0, hi, hz0, hz1, hz2⟩ := info_parts info5
  have HBS := Lib.hid hb
  have B2 : Below w.heap.size w ((w.alloc (.cells z32 56)).alloc (.cells #[] 5)) := ((Below.refl _ _).alloc (Nat.le_refl _) _).alloc (by simp) _
  have HB2 := Lib.hid B2
  have HO2 := Lib.hid (own_empty (w.alloc (.cells z32 56)) 5)
  have HV2 := Lib.hid (hb.below B2)
  clear hb B2
  go_enter Tryd.func36, Tryd.ntmps36
  go_wp2_with (at_builtin; refine wpList_append_rd _ rfl _ _ 22 rfl (w.heap.size + 1) 5 i0 (.int .u8 0) 1 1 Tryd.underlying22 hi hz0 hz1 hz2 rfl (by decide) _ 0 [] rfl ?o1 _ _ _ rfl HV2.out (oneCell_u8 _) ?o2 (by decide) ?o3 ?_)
  case o1 =>
    have := HO2.out
    rw [World.size_alloc] at this
    exact this
  case o2 => omega
  case o3 => simp
  intro v3 w3 hown3 hb3
  have HB3 := Lib.hid (HB2.out.trans (hb3.mono (by omega)))
  have HG3 : Hid (w3.heap[w.heap.size]? = some (.cells z32 56 (0, 0))) := by
    show _ = _
    rw [hb3.block _ (by omega), Below.heap_alloc _ _ _ (by simp), heap_alloc_last]
    rfl
  have HO3 := Lib.hid hown3
  have HLT3 : Hid (w.heap.size + 1 ≤ w3.heap.size) := (Array.getElem?_eq_some_iff.1 HG3.out).1
  clear hown3 hb3
  go_wp2_with fail
  refine (rbehind_yes l.length (by omega) w3).mono ?_
  rintro e w4 ⟨v4, rfl, hv4, hb4⟩
  have HO4 := Lib.hid (ownsRow_below HO3.out hb4)
  have HB4 := Lib.hid (HB3.out.trans (hb4.mono HB3.out.size))
  have HG4 := Lib.hid (heap_below HG3.out hb4)
  have HLT4 : Hid (w.heap.size + 1 ≤ w4.heap.size) := Nat.le_trans HLT3.out hb4.size
  have HV4 := Lib.hid hv4.bs
  have HZ := Lib.hid (zerosN_lt l.length)
  clear hv4 hb4
  go_wp2_with (at_builtin; refine wpList_append_rd _ rfl _ _ 22 rfl (w.heap.size + 1) 5 i0 (.int .u8 0) 1 1 Tryd.underlying22 hi hz0 hz1 hz2 rfl (by decide) _ _ _ rfl HO4.out _ _ _ rfl HV4.out (oneCell_u8 _) ?o2 (by decide) HLT4.out ?_)
  case o2 => have := behindL_length l.length; have := HZ.out; omega
  intro v5 w5 hown5 hb5
  obtain ⟨all, hall⟩ : ∃ all, all = l ++ behindL l.length := ⟨_, rfl⟩
  have hlen : all.length = l.length + (behindL l.length).length := by rw [hall, List.length_append]
  have hN64 : all.length % 64 = 0 := by rw [hall]; exact behindL_fit l
  have hN0 : 0 < all.length := by rw [hlen, behindL_length]; omega
  have hNb : all.length < 1099511628000 := by rw [hlen, behindL_length]; have := HZ.out; omega
  have hm : l.map u8v ++ (behindL l.length).map u8v = all.map u8v := by rw [hall]; simp
  rw [hm, ← hlen] at hown5
  obtain ⟨ga, ca, rfl, hga, hgas, hac⟩ := own_at hown5 hN0
  have HA5 := Lib.hid hac
  have HB5 := Lib.hid (HB4.out.trans (hb5.mono (by omega)))
  have HG5 : Hid (w5.heap[w.heap.size]? = some (.cells z32 56 (0, 0))) := by
    show _ = _
    rw [hb5.block _ (by omega)]; exact HG4.out
  have HALL := Lib.hid hall
  have HN64 := Lib.hid hN64
  have HLEN := Lib.hid hlen
  clear hall hlen hm hown5 hb5 hac hN64
  go_wp2_with fail
  refine (rbegin_any w5).mono ?_
  rintro e w6 ⟨rfl, hb6⟩
  have HB6 := Lib.hid (HB5.out.trans (hb6.mono HB5.out.size))
  have HG6 := Lib.hid (heap_below HG5.out hb6)
  have HA6 : Hid (∀ i (hi : i < all.length), w6.cell? ⟨ga, i, none⟩ = some (.int .u8 (all[i].toNat : Int))) := fun i hi => cell_gr hb6 (HA5.out i hi)
  have hga6 : ga < w6.heap.size := Nat.lt_of_lt_of_le hgas hb6.size
  have hw6 : w.heap.size < w6.heap.size := (Array.getElem?_eq_some_iff.1 HG6.out).1
  clear hb6
  go_wp2_with (with_reducible refine wpList_store_row rfl 78 (.tmp 4) (.tmp 17) rfl w6.heap.size st0.cells.toArray rfl rfl 78 (List.replicate 8 (Value.int .u32 0)).toArray (heap_alloc_last _ _) ?a1 ?a2 ?a3 ?_)
  case a1 => exact size8
  case a2 => rfl
  case a3 => exact one_words st0.list
  intro w7 h1 h2 h3
  obtain ⟨gs, hgs⟩ : ∃ gs, gs = w6.heap.size := ⟨_, rfl⟩
  rw [← hgs] at h1 h2 h3 ⊢
  have HR : Hid (RS w w7 gs ga (st0.run 0 all) all) := by
    refine ⟨h2 _ _ (by omega) (HB6.out.alloc (by omega) _), ?_, h1, fun i hi => ?_, by omega, by omega⟩
    · rw [h3 _ (by omega), Below.heap_alloc _ _ _ (by omega)]; exact HG6.out
    · rw [World.cell?_of_block (w := w6.alloc _) (h3 ga (by omega)), World.cell?_of_block (w := w6) (Below.heap_alloc _ _ _ (by omega))]; exact HA6.out i hi
  clear h1 h2 h3 hgs hga6 hw6
  go_wp2
  go_loopw [5] (fun i5 wr => ∃ j : Nat, 64 * j ≤ all.length ∧ i5 = .int .i64 (64 * (j : Int)) ∧ Hid (RS w wr gs ga (st0.run j all) all)) (fun i5 _ => all.length - (intOf i5).toNat)
  case atStart => exact ⟨0, by omega, rfl, HR⟩
  case round =>
    clear HR
    obtain ⟨j, hj, rfl, HR⟩ := hrel
    by_cases hlt : 64 * j < all.length
    · have hj64 : 64 * j + 64 ≤ all.length := by have := HN64.out; omega
      have hbl : ((all.drop (64 * j)).take 64).length = 64 := by rw [List.length_take, List.length_drop]; omega
      obtain ⟨blk, hblk⟩ : ∃ blk, blk = (all.drop (64 * j)).take 64 := ⟨_, rfl⟩
      rw [← hblk] at hbl
      have HBLK := Lib.hid hblk
      have HBL := Lib.hid hbl
      obtain ⟨gb, hgb⟩ : ∃ gb, gb = wr.heap.size := ⟨_, rfl⟩
      have hgsb : gs < gb := by rw [hgb]; exact (Array.getElem?_eq_some_iff.1 HR.out.2.2.1).1
      have hgab : ga < gb := by rw [hgb]; exact World.block_lt_of_cell? wr _ (HR.out.2.2.2.1 0 hN0)
      have hwb : w.heap.size < gb := by have := HR.out.2.2.2.2.1; omega
      have HQ : Hid (RS w (wr.alloc (.cells (List.replicate 64 (Value.int .u8 0)).toArray 69)) gs ga (st0.run j all) all ∧ (wr.alloc (.cells (List.replicate 64 (Value.int .u8 0)).toArray 69)).heap[gb]? = some (.cells (upto blk 64 0).toArray 69 (0, 0))) := by
        refine ⟨HR.out.below ((Below.refl _ _).alloc (Nat.le_refl _) _), ?_⟩
        rw [hgb, heap_alloc_last, upto_zero]
      clear hblk hbl
      go_wp2
      rw [← hgb]
      clear hgb
      go_loopw [7] (fun k7 wq => ∃ k : Nat, k ≤ 64 ∧ k7 = .int .i64 (k : Int) ∧ Hid (RS w wq gs ga (st0.run j all) all ∧ wq.heap[gb]? = some (.cells (upto blk 64 k).toArray 69 (0, 0)))) (fun k7 _ => 64 - (intOf k7).toNat)
      case atStart => exact ⟨0, by omega, rfl, HQ⟩
      case round =>
        clear HQ HR
        obtain ⟨k, hk, rfl, HQ⟩ := hrel
        by_cases hlt2 : k < 64
        · have c0 := HQ.out.1.2.2.2.1 (64 * j + k) (by omega)
          have f0 : wr.frozen? ⟨gb, k, none⟩ = false := frozen_of_row _ _ _ _ _ HQ.out.2
          have c1 : wr.cell? ⟨gb, k, none⟩ = some (.int .u8 0) := by
            rw [cell_of_row _ _ _ _ _ _ HQ.out.2]
            simpa using upto_at blk 64 k HBL.out hlt2
          obtain ⟨b, hb⟩ : ∃ b, b = all[64 * j + k]'(by omega) := ⟨_, rfl⟩
          rw [← hb] at c0
          have hb2 : blk[k]? = some b := by
            rw [HBLK.out, List.getElem?_take, if_pos hlt2, List.getElem?_drop, hb]
            exact List.getElem?_eq_getElem _
          have HQ2 : Hid (RS w (wr.setCell ⟨gb, k, none⟩ (.int .u8 (b.toNat : Int))) gs ga (st0.run j all) all ∧ (wr.setCell ⟨gb, k, none⟩ (.int .u8 (b.toNat : Int))).heap[gb]? = some (.cells (upto blk 64 (k + 1)).toArray 69 (0, 0))) := by
            refine ⟨HQ.out.1.only (Only.setCell _ _ _) hwb (by omega) (by omega), ?_⟩
            rw [heap_setCell_same _ _ _ _ _ _ HQ.out.2, ← upto_set blk 64 k HBL.out hlt2 b hb2]
            simp [u8v]
          clear hb hb2
          go_wp2
          go_roundw
          case rel =>
            first | exact ⟨k + 1, by omega, by go_num, HQ2⟩ | ((repeat apply Exists.intro); exact ⟨⟨k + 1, by omega, by go_num, HQ2⟩, rfl⟩)
          case measure => simp [intOf]; omega
        · obtain rfl : k = 64 := by omega
          have g1 := HQ.out.2
          rw [upto_full _ _ HBL.out] at g1
          have HRB := Lib.hid (range_of_row g1)
          have HRS := Lib.hid (range_of_row HQ.out.1.2.2.1)
          have HSB : Hid ((Tryd.prog.info? 69).map (·.size) = some (blk.map u8v).length) := by
            show _ = _
            rw [List.length_map, HBL.out]; exact size64b
          obtain ⟨S, hS⟩ : ∃ S, S = st0.run j all := ⟨_, rfl⟩
          have HQ1 := HQ.out.1
          rw [← hS] at HRS HQ1
          have HQQ := Lib.hid HQ1
          obtain ⟨T, hT⟩ : ∃ T, T = S.step blk := ⟨_, rfl⟩
          have HST : Hid (T = st0.run (j + 1) all) := by show _ = _; rw [hT, St.run_snoc st0, ← hS, HBLK.out]
          have HSTP : Hid (∀ w, Calls Tryd.prog 47 #[.agg S.cells.toArray, .agg (blk.map u8v).toArray] w fun e w' => e = .returned (.agg T.cells.toArray) ∧ Below w.heap.size w w') := by rw [hT]; exact rstep_any S blk HBL.out
          clear hT
          clear g1 hS HQ1 HQ
          go_wp2_with (first | (with_reducible refine wpList_load_mid rfl 78 (.tmp 4) rfl gs 0 rfl S.cells _ HRS.out Tryd.underlying78 rfl (size8c S) ?_) | (with_reducible refine wpList_load_mid rfl 69 (.tmp 6) rfl gb 0 rfl (blk.map u8v) _ HRB.out Tryd.underlying69 rfl HSB.out ?_))
          refine (HSTP.out wr).mono ?_
          rintro e w8 ⟨rfl, hb8⟩
          have HR8 := Lib.hid (HQQ.out.below hb8)
          have g8 := HR8.out.2.2.1
          have HG8 := Lib.hid g8
          clear hb8 g8
          go_wp2_with (with_reducible refine wpList_store_row rfl 78 (.tmp 4) (.tmp 38) rfl gs T.cells.toArray rfl rfl 78 S.cells.toArray HG8.out ?b1 ?b2 ?b3 ?_)
          case b1 => exact size8c _
          case b2 => rfl
          case b3 => exact one_words T.list
          intro w9 h1 h2 h3
          have HR9 : Hid (RS w w9 gs ga (st0.run (j + 1) all) all) := by
            show RS _ _ _ _ _ _
            rw [← HST.out]
            exact HR8.out.turn h1 h2 h3
          clear h1 h2 h3
          go_wp2
          go_roundw
          case rel =>
            first | exact ⟨j + 1, by omega, i64_eq (by omega), HR9⟩ | ((repeat apply Exists.intro); exact ⟨⟨j + 1, by omega, i64_eq (by omega), HR9⟩, rfl⟩)
          case measure => simp [intOf]; omega
    · have hj2 : all.length / 64 = j := by omega
      obtain ⟨S, hS⟩ : ∃ S, S = st0.run j all := ⟨_, rfl⟩
      have HS : Hid (S = sumS l) := by show _ = _; rw [hS, ← hj2, HALL.out]; rfl
      have hr := HR.out
      rw [← hS] at hr
      obtain ⟨go', hgo⟩ : ∃ go', go' = wr.heap.size := ⟨_, rfl⟩
      have hgso : gs < go' := by rw [hgo]; exact (Array.getElem?_eq_some_iff.1 hr.2.2.1).1
      have hgao : ga < go' := by rw [hgo]; exact World.block_lt_of_cell? wr _ (hr.2.2.2.1 0 hN0)
      have hwo : w.heap.size < go' := by have := hr.2.2.2.2.1; omega
      have HQ : Hid (RS w (wr.alloc (.cells (List.replicate 32 (Value.int .u8 0)).toArray 56)) gs ga S all ∧ (wr.alloc (.cells (List.replicate 32 (Value.int .u8 0)).toArray 56)).heap[go']? = some (.cells (upto S.bytes 32 0).toArray 56 (0, 0))) := by
        refine ⟨hr.below ((Below.refl _ _).alloc (Nat.le_refl _) _), ?_⟩
        rw [hgo, heap_alloc_last, upto_zero]
      clear hS hr HR hj2
      go_wp2
      rw [← hgo]
      clear hgo
      go_loopw [9] (fun i9 wq => ∃ i : Nat, i ≤ 32 ∧ i9 = .int .i64 (i : Int) ∧ Hid (RS w wq gs ga S all ∧ wq.heap[go']? = some (.cells (upto S.bytes 32 i).toArray 56 (0, 0)))) (fun i9 _ => 32 - (intOf i9).toNat)
      case atStart => exact ⟨0, by omega, rfl, HQ⟩
      case round =>
        clear HQ
        obtain ⟨i, hi32, rfl, HQ⟩ := hrel
        by_cases hlt2 : i < 32
        · obtain ⟨x, hx⟩ : ∃ x, x = S.list.getD (i / 4) 0 := ⟨_, rfl⟩
          have c0 : wr.cell? ⟨gs, i / 4, none⟩ = some (u32v x) := by
            rw [cell_of_row _ _ _ _ _ _ HQ.out.1.2.2.1, hx]
            have : i / 4 < S.list.length := by show i / 4 < 8; omega
            simp [St.cells, this]
          have f0 : wr.frozen? ⟨go', i, none⟩ = false := frozen_of_row _ _ _ _ _ HQ.out.2
          have c1 : wr.cell? ⟨go', i, none⟩ = some (.int .u8 0) := by
            rw [cell_of_row _ _ _ _ _ _ HQ.out.2]
            simpa using upto_at S.bytes 32 i (St.bytes_length S) hlt2
          obtain ⟨m, hm⟩ : ∃ m, m = 24 - 8 * (i % 4) := ⟨_, rfl⟩
          have em : IntKind.u64.wrap (24 - 8 * ((i : Int) % 4)) = (m : Int) := by rw [IntKind.wrap_u64]; omega
          have m32 : m < 32 := by omega
          have hbv : IntKind.u8.wrap (iv x / 2 ^ m) = ((UInt8.ofNat (x.toNat / 256 ^ (3 - i % 4))).toNat : Int) := by
            have e : (256 : Nat) ^ (3 - i % 4) = 2 ^ m := by
              rw [show (256 : Nat) = 2 ^ 8 by rfl, ← Nat.pow_mul]; congr 1; omega
            rw [e, IntKind.wrap_u8', UInt8.toNat_ofNat']
            unfold iv
            rw [show ((2 : Int) ^ m) = ((2 ^ m : Nat) : Int) by simp, ← Int.natCast_ediv]
            omega
          have hbv2 : iv x / 2 ^ m % 256 = ((UInt8.ofNat (x.toNat / 256 ^ (3 - i % 4))).toNat : Int) := by rw [← hbv, IntKind.wrap_u8']
          obtain ⟨b, hb⟩ : ∃ b, b = UInt8.ofNat (x.toNat / 256 ^ (3 - i % 4)) := ⟨_, rfl⟩
          have hb2 : S.bytes[i]? = some b := by rw [bytes_get S i hlt2, ← hx, hb]
          rw [← hb] at hbv hbv2
          have HQ2 : Hid (RS w (wr.setCell ⟨go', i, none⟩ (.int .u8 (b.toNat : Int))) gs ga S all ∧ (wr.setCell ⟨go', i, none⟩ (.int .u8 (b.toNat : Int))).heap[go']? = some (.cells (upto S.bytes 32 (i + 1)).toArray 56 (0, 0))) := by
            refine ⟨HQ.out.1.only (Only.setCell _ _ _) hwo (by omega) (by omega), ?_⟩
            rw [heap_setCell_same _ _ _ _ _ _ HQ.out.2, ← upto_set S.bytes 32 i (St.bytes_length S) hlt2 b hb2]
            simp [u8v]
          clear hb hb2 hx hm
          go_wp2
          go_roundw
          case rel =>
            first | exact ⟨i + 1, by omega, by go_num, HQ2⟩ | ((repeat apply Exists.intro); exact ⟨⟨i + 1, by omega, by go_num, HQ2⟩, rfl⟩)
          case measure => simp [intOf]; omega
        · obtain rfl : i = 32 := by omega
          have g1 := HQ.out.2
          rw [upto_full _ _ (St.bytes_length S)] at g1
          have HRB := Lib.hid (range_of_row g1)
          have g3 := HQ.out.1.2.1
          have G3 := Lib.hid g3
          have GB := Lib.hid HQ.out.1.1
          clear g1 g3 HQ
          go_wp2_with (first | (with_reducible refine wpList_load_mid rfl 56 (.tmp 8) rfl go' 0 rfl (S.bytes.map u8v) _ HRB.out Tryd.underlying56 rfl ?e0 ?_) | (with_reducible refine wpList_store_row rfl 56 (.tmp 2) (.tmp 56) rfl w.heap.size (S.bytes.map u8v).toArray rfl rfl 56 z32 G3.out ?e1 ?e2 ?e3 ?_))
          case e0 => rw [List.length_map, St.bytes_length]; exact size32b
          case e1 => exact size32l _ (St.bytes_length _)
          case e2 => show z32.size = (S.bytes.map u8v).length; rw [List.length_map, St.bytes_length]; rfl
          case e3 => exact all_oneCell_toArray (oneCell_u8 _)
          intro w9 h1 h2 _
          have H1 := Lib.hid h1
          have H6 := Lib.hid (h2 _ _ (Nat.le_refl _) GB.out)
          clear h1 h2
          go_wp2
          refine bodyPost_ret (v := .agg ((sumL l).map u8v).toArray) (results_cell_row Tryd.results36 _ _ w.heap.size 56 _ (0, 0) _ rfl (by rw [H1.out, HS.out]; rfl) Tryd.underlying56 rfl (size32l _ (St.bytes_length _))) rfl ?_
          exact ⟨rfl, H6.out⟩
end Go.Proofs.YtjlacialbfhjcaaDoor
