/-
  The document's HMAC: the key's block turned by a byte.
-/
import Derived.Test.YtjlacialbfhjcaaDoorMacA
namespace Go.Proofs.YtjlacialbfhjcaaDoor
open Go.RowKit
set_option linter.unusedVariables false
set_option linter.unusedSimpArgs false

/-- The first k bytes of x, zeros behind up to 64. -/
def keyU (x : List UInt8) (k : Nat) : List Value := (x.take k).map u8v ++ List.replicate (64 - k) (.int .u8 0)
theorem keyU_zero (x : List UInt8) : keyU x 0 = List.replicate 64 (.int .u8 0) := by simp [keyU]
theorem keyU_full (key : List UInt8) : keyU (keyL key) (keyL key).length = (keyB key).map u8v := by
  unfold keyU keyB
  rw [List.take_length, List.map_append, List.map_replicate]
  rfl
theorem keyU_set (x : List UInt8) (k : Nat) (hk : k < x.length) (hx : x.length ≤ 64) : (keyU x k).set k (.int .u8 (x[k].toNat : Int)) = keyU x (k + 1) := by
  have hl : ((x.take k).map u8v).length = k := by simp; omega
  unfold keyU
  rw [List.set_append_right _ _ (by omega), hl, Nat.sub_self, show 64 - k = (64 - (k + 1)) + 1 by omega, List.replicate_succ, List.set_cons_zero, List.take_succ_eq_append_getElem hk]
  simp only [List.map_append, List.map_cons, List.map_nil, u8v, List.append_assoc, List.singleton_append]
theorem keyU_length (x : List UInt8) (k : Nat) (hk : k ≤ x.length) (hx : x.length ≤ 64) : (keyU x k).length = 64 := by simp [keyU]; omega
/-- What the first two loops hold: k bytes are laid. -/
def TI (w wr : World) (gs os : Nat) (x : List UInt8) (k : Nat) : Prop :=
  wr.ownsRow w.heap.size 5 1 (.slice (some ⟨w.heap.size, 0, none⟩) 64 64) 64 (keyU x k) ∧ Below w.heap.size w wr ∧ gs ≠ w.heap.size ∧ ∀ j (hj : j < x.length), wr.cell? ⟨gs, os + j, none⟩ = some (.int .u8 (x[j].toNat : Int))
theorem TI.next {w wr : World} {gs os k : Nat} {x : List UInt8} (h : TI w wr gs os x k) (hk : k < x.length) (hx : x.length ≤ 64) : TI w (wr.setCell ⟨w.heap.size, k, none⟩ (.int .u8 (x[k].toNat : Int))) gs os x (k + 1) := by
  obtain ⟨h1, h2, h3, h4⟩ := h
  refine ⟨?_, h2.setCell (Nat.le_refl _) _, h3, fun j hj => ?_⟩
  · have := (h1.stored k (.int .u8 (x[k].toNat : Int))).1
    rw [keyU_set x k hk hx] at this
    exact this
  · rw [World.cell?_of_block (w := wr) (heap_setCell_other _ _ _ _ h3)]
    exact h4 j hj
/-- What the third loop holds: k bytes are turned. -/
def TJ (w wr : World) (l : List UInt8) (b : UInt8) (k : Nat) : Prop :=
  wr.ownsRow w.heap.size 5 1 (.slice (some ⟨w.heap.size, 0, none⟩) 64 64) 64 ((turnK l b k).map u8v) ∧ Below w.heap.size w wr
theorem TJ.next {w wr : World} {l : List UInt8} {b : UInt8} {k : Nat} (h : TJ w wr l b k) (hk : k < l.length) : TJ w (wr.setCell ⟨w.heap.size, k, none⟩ (.int .u8 ((l[k].toNat ^^^ b.toNat : Nat) : Int))) l b (k + 1) := by
  obtain ⟨h1, h2⟩ := h
  refine ⟨?_, h2.setCell (Nat.le_refl _) _⟩
  have := (h1.stored k (.int .u8 ((l[k].toNat ^^^ b.toNat : Nat) : Int))).1
  rw [turnK_step l b k hk] at this
  exact this
set_option maxHeartbeats 2000000 in
theorem rturned_any (ao : Option Addr) (n c : Nat) (l : List UInt8) (hn : l.length = n) (b : UInt8) (w : World) (hb : Bs w (.slice ao n c) l) (hl : l.length < 1099511627776) :
    Calls Tryd.prog 37 #[.slice ao n c, .int .u8 (b.toNat : Int)] w fun e w' => ∃ g, e = .returned (.slice (some ⟨g, 0, none⟩) 64 64) ∧ OwnB w' w.heap.size 5 (.slice (some ⟨g, 0, none⟩) 64 64) (turnL (keyB l) b) ∧ Below w.heap.size w w' := by
  obtain ⟨i0, hi, hz0, hz1, hz2⟩ := info_parts info5
  have hb8 := UInt8.toNat_lt b
  have HN := Lib.hid hn
  have HV := Lib.hid hb
  have hsrc : ∃ gs os, (0 < n → ao = some ⟨gs, os, none⟩) ∧ gs ≠ w.heap.size ∧ ∀ j (hj : j < l.length), w.cell? ⟨gs, os + j, none⟩ = some (.int .u8 (l[j].toNat : Int)) := by
    by_cases h0 : 0 < l.length
    · obtain ⟨b, o, h1, h2, h3⟩ := hb.cells h0
      exact ⟨b, o, fun _ => h1, by omega, h3⟩
    · exact ⟨w.heap.size + 1, 0, fun h => by omega, by omega, fun j hj => by omega⟩
  clear hb hn
  by_cases h64 : 64 < n
  · have HK : Hid (keyL l = sumL l) := by show _ = _; unfold keyL; rw [if_pos (by have := HN.out; omega)]
    clear hsrc
    go_enter Tryd.func37, Tryd.ntmps37
    go_wp2_with (at_make; refine wpList_make_full _ rfl _ _ 22 rfl w.heap.size 5 i0 (.int .u8 0) 1 Tryd.underlying22 hi hz0 hz1 _ _ _ _ 64 rfl rfl rfl rfl ?c1 ?c2 ?c3 ?_)
    case c1 => rw [hz2]; omega
    case c2 => unfold maxLen; omega
    case c3 => simp
    intro w1 hown hg
    have hb1 : Below w.heap.size w w1 := (Below.refl _ _).grown hg (Nat.le_refl _) (fun _ h => by cases h)
    have HO1 : Hid (w1.ownsRow w.heap.size 5 1 (.slice (some ⟨w.heap.size, 0, none⟩) 64 64) 64 (keyU (sumL l) 0)) := by
      rw [keyU_zero]
      rwa [toList_madeCells_one] at hown
    have HB1 := Lib.hid hb1
    clear hown hg hb1
    go_wp2_with fail
    refine (rsum_any ao n c l HN.out w1 (HV.out.below HB1.out) hl).mono ?_
    rintro e w2 ⟨rfl, hb2⟩
    have HO2 := Lib.hid (ownsRow_below HO1.out hb2)
    have HB2 := Lib.hid (HB1.out.trans (hb2.mono HB1.out.size))
    have hs2 : w.heap.size < w2.heap.size := (HO2.out.lt _ rfl).2
    clear hb2
    go_wp2_with (with_reducible refine wpList_store_row rfl 56 (.tmp 6) (.tmp 15) rfl w2.heap.size _ rfl rfl 56 z32 (heap_alloc_last _ _) ?a1 ?a2 ?a3 ?_)
    case a1 => exact size32l _ (St.bytes_length _)
    case a2 => show z32.size = ((sumL l).map u8v).length; rw [List.length_map, sumL_length]; rfl
    case a3 => exact all_oneCell_toArray (oneCell_u8 _)
    intro w3 h1 h2 h3
    obtain ⟨gs, hgs⟩ : ∃ gs, gs = w2.heap.size := ⟨_, rfl⟩
    obtain ⟨os, hos⟩ : ∃ os, os = 0 := ⟨_, rfl⟩
    rw [← hgs] at h1 h2 h3 ⊢
    obtain ⟨x, hx⟩ : ∃ x, x = sumL l := ⟨_, rfl⟩
    have HX := Lib.hid hx
    have HXL : Hid (x.length = 32) := by show _ = _; rw [hx, sumL_length]
    have HX64 : Hid (x.length ≤ 64) := by show _ ≤ _; rw [hx, sumL_length]; omega
    rw [← hx] at h1
    have HT : Hid (TI w w3 gs 0 x 0) := by
      have hb3 : Below w2.heap.size w2 w3 := h2 _ _ (by omega) ((Below.refl _ _).alloc (Nat.le_refl _) _)
      refine ⟨?_, HB2.out.trans (hb3.mono HB2.out.size), by omega, fun j hj => ?_⟩
      · rw [hx]; exact ownsRow_below HO2.out hb3
      · rw [cell_of_row _ _ _ _ _ _ h1]
        simp [hj, u8v]
    clear h1 h2 h3 hgs hx hos
    go_wp2
    go_loopw [7] (fun iv wr => ∃ k : Nat, k ≤ 32 ∧ iv = .int .i64 k ∧ Hid (TI w wr gs 0 x k)) (fun iv _ => 32 - (intOf iv).toNat)
    case atStart => exact ⟨0, by omega, rfl, HT⟩
    case round =>
      clear HT
      obtain ⟨k, hk, rfl, HI⟩ := hrel
      by_cases hlt : k < 32
      · have hk2 : k < (x).length := by have := HXL.out; omega
        have HI2 := Lib.hid (HI.out.next hk2 HX64.out)
        have c0 := HI.out.2.2.2 k hk2
        have f0 : wr.frozen? ⟨w.heap.size, k, none⟩ = false := HI.out.1.frozenAt k
        have hx8 := UInt8.toNat_lt (x)[k]
        obtain ⟨u, hu⟩ : ∃ u, wr.cell? ⟨w.heap.size, k, none⟩ = some u := by
          rw [HI.out.1.cellAt k (by omega)]
          exact ⟨_, List.getElem?_eq_getElem (by rw [keyU_length _ _ (by omega) HX64.out]; omega)⟩
        obtain ⟨z, hz⟩ : ∃ z, z = (x)[k].toNat := ⟨_, rfl⟩
        rw [← hz] at c0 hx8 HI2
        clear hz
        rw [Nat.zero_add] at c0
        go_wp2
        go_roundw
        case rel =>
          first | exact ⟨k + 1, by omega, by go_num, HI2⟩ | ((repeat apply Exists.intro); exact ⟨⟨k + 1, by omega, by go_num, HI2⟩, rfl⟩)
        case measure => simp [intOf]; omega
      · obtain rfl : k = 32 := by omega
        have HJ : Hid (TJ w wr (keyB l) b 0) := by
          refine ⟨?_, HI.out.2.1⟩
          rw [turnK_zero, ← keyU_full l]
          have := HI.out.1
          rw [HK.out, ← HX.out, HXL.out]
          exact this
        clear HI
        go_wp2
        go_loopw [9] (fun iv wr => ∃ k : Nat, k ≤ 64 ∧ iv = .int .i64 k ∧ Hid (TJ w wr (keyB l) b k)) (fun iv _ => 64 - (intOf iv).toNat)
        case atStart => exact ⟨0, by omega, rfl, HJ⟩
        case round =>
          clear HJ
          obtain ⟨k, hk, rfl, HI⟩ := hrel
          have HBL := Lib.hid (keyB_length l)
          by_cases hlt : k < 64
          · have hk2 : k < (keyB l).length := by have := HBL.out; omega
            have HI2 := Lib.hid (HI.out.next hk2)
            have hx8 := UInt8.toNat_lt (keyB l)[k]
            have c0 : wr.cell? ⟨w.heap.size, k, none⟩ = some (.int .u8 ((keyB l)[k].toNat : Int)) := by
              rw [HI.out.1.cellAt k (by omega)]
              have := turnK_at (keyB l) b k hk2
              simp [this, u8v]
            have f0 : wr.frozen? ⟨w.heap.size, k, none⟩ = false := HI.out.1.frozenAt k
            obtain ⟨x, hx⟩ : ∃ x, x = (keyB l)[k].toNat := ⟨_, rfl⟩
            obtain ⟨y, hy⟩ : ∃ y, y = b.toNat := ⟨_, rfl⟩
            rw [← hx] at c0 hx8 HI2
            rw [← hy] at hb8 HI2 ⊢
            have e1 := u8_xor_nat x y hx8 hb8
            obtain ⟨z, hz⟩ : ∃ z, z = x ^^^ y := ⟨_, rfl⟩
            rw [← hz] at e1 HI2
            clear hx hy hz
            go_wp2
            go_roundw
            case rel =>
              first | exact ⟨k + 1, by omega, by go_num, HI2⟩ | ((repeat apply Exists.intro); exact ⟨⟨k + 1, by omega, by go_num, HI2⟩, rfl⟩)
            case measure => simp [intOf]; omega
          · obtain rfl : k = 64 := by omega
            have h64' := HI.out
            unfold TJ at h64'
            rw [turnK_full (keyB l) b 64 (by have := HBL.out; omega)] at h64'
            have HE : Hid (OwnB wr w.heap.size 5 (.slice (some ⟨w.heap.size, 0, none⟩) 64 64) (turnL (keyB l) b) ∧ Below w.heap.size w wr) := by
              refine ⟨?_, h64'.2⟩
              unfold OwnB
              rw [turnL_length, HBL.out]
              exact h64'.1
            clear h64' HI
            go_wp2
            go_ret
            exact ⟨_, rfl, HE.out⟩
  · have HK : Hid (keyL l = l) := by show _ = _; unfold keyL; rw [if_neg (by have := HN.out; omega)]
    obtain ⟨gs, os, hao, hne, hcell⟩ := hsrc
    obtain ⟨x, hx⟩ : ∃ x, x = l := ⟨_, rfl⟩
    have HX := Lib.hid hx
    have HXL : Hid (x.length = n) := by rw [hx]; exact HN
    have HX64 : Hid (x.length ≤ 64) := by show _ ≤ _; have := HXL.out; omega
    rw [← hx] at hcell
    have HC := Lib.hid hcell
    have HAO := Lib.hid hao
    clear hx hcell hao
    go_enter Tryd.func37, Tryd.ntmps37
    go_wp2_with (at_make; refine wpList_make_full _ rfl _ _ 22 rfl w.heap.size 5 i0 (.int .u8 0) 1 Tryd.underlying22 hi hz0 hz1 _ _ _ _ 64 rfl rfl rfl rfl ?c1 ?c2 ?c3 ?_)
    case c1 => rw [hz2]; omega
    case c2 => unfold maxLen; omega
    case c3 => simp
    intro w1 hown hg
    have hb1 : Below w.heap.size w w1 := (Below.refl _ _).grown hg (Nat.le_refl _) (fun _ h => by cases h)
    have HT : Hid (TI w w1 gs os x 0) := by
      refine ⟨?_, hb1, hne, fun j hj => cell_gr hb1 (HC.out j hj)⟩
      rw [keyU_zero]
      rwa [toList_madeCells_one] at hown
    clear hown hg hb1 HC
    go_wp2
    go_loopw [8] (fun iv wr => ∃ k : Nat, k ≤ n ∧ iv = .int .i64 k ∧ Hid (TI w wr gs os x k)) (fun iv _ => n - (intOf iv).toNat)
    case atStart => exact ⟨0, by omega, rfl, HT⟩
    case round =>
      clear HT
      obtain ⟨k, hk, rfl, HI⟩ := hrel
      by_cases hlt : k < n
      · have hk2 : k < (x).length := by have := HXL.out; omega
        have HI2 := Lib.hid (HI.out.next hk2 HX64.out)
        have c0 := HI.out.2.2.2 k hk2
        have f0 : wr.frozen? ⟨w.heap.size, k, none⟩ = false := HI.out.1.frozenAt k
        have hx8 := UInt8.toNat_lt (x)[k]
        obtain ⟨u, hu⟩ : ∃ u, wr.cell? ⟨w.heap.size, k, none⟩ = some u := by
          rw [HI.out.1.cellAt k (by omega)]
          exact ⟨_, List.getElem?_eq_getElem (by rw [keyU_length _ _ (by omega) HX64.out]; omega)⟩
        obtain ⟨z, hz⟩ : ∃ z, z = (x)[k].toNat := ⟨_, rfl⟩
        rw [← hz] at c0 hx8 HI2
        clear hz
        obtain rfl := HAO.out (by omega)
        go_wp2
        go_roundw
        case rel =>
          first | exact ⟨k + 1, by omega, by go_num, HI2⟩ | ((repeat apply Exists.intro); exact ⟨⟨k + 1, by omega, by go_num, HI2⟩, rfl⟩)
        case measure => simp [intOf]; omega
      · obtain rfl : k = n := by omega
        have HJ : Hid (TJ w wr (keyB l) b 0) := by
          refine ⟨?_, HI.out.2.1⟩
          rw [turnK_zero, ← keyU_full l]
          have := HI.out.1
          rw [HK.out, ← HX.out, HXL.out]
          exact this
        clear HI
        go_wp2
        go_loopw [9] (fun iv wr => ∃ k : Nat, k ≤ 64 ∧ iv = .int .i64 k ∧ Hid (TJ w wr (keyB l) b k)) (fun iv _ => 64 - (intOf iv).toNat)
        case atStart => exact ⟨0, by omega, rfl, HJ⟩
        case round =>
          clear HJ
          obtain ⟨k, hk, rfl, HI⟩ := hrel
          have HBL := Lib.hid (keyB_length l)
          by_cases hlt : k < 64
          · have hk2 : k < (keyB l).length := by have := HBL.out; omega
            have HI2 := Lib.hid (HI.out.next hk2)
            have hx8 := UInt8.toNat_lt (keyB l)[k]
            have c0 : wr.cell? ⟨w.heap.size, k, none⟩ = some (.int .u8 ((keyB l)[k].toNat : Int)) := by
              rw [HI.out.1.cellAt k (by omega)]
              have := turnK_at (keyB l) b k hk2
              simp [this, u8v]
            have f0 : wr.frozen? ⟨w.heap.size, k, none⟩ = false := HI.out.1.frozenAt k
            obtain ⟨x, hx⟩ : ∃ x, x = (keyB l)[k].toNat := ⟨_, rfl⟩
            obtain ⟨y, hy⟩ : ∃ y, y = b.toNat := ⟨_, rfl⟩
            rw [← hx] at c0 hx8 HI2
            rw [← hy] at hb8 HI2 ⊢
            have e1 := u8_xor_nat x y hx8 hb8
            obtain ⟨z, hz⟩ : ∃ z, z = x ^^^ y := ⟨_, rfl⟩
            rw [← hz] at e1 HI2
            clear hx hy hz
            go_wp2
            go_roundw
            case rel =>
              first | exact ⟨k + 1, by omega, by go_num, HI2⟩ | ((repeat apply Exists.intro); exact ⟨⟨k + 1, by omega, by go_num, HI2⟩, rfl⟩)
            case measure => simp [intOf]; omega
          · obtain rfl : k = 64 := by omega
            have h64' := HI.out
            unfold TJ at h64'
            rw [turnK_full (keyB l) b 64 (by have := HBL.out; omega)] at h64'
            have HE : Hid (OwnB wr w.heap.size 5 (.slice (some ⟨w.heap.size, 0, none⟩) 64 64) (turnL (keyB l) b) ∧ Below w.heap.size w wr) := by
              refine ⟨?_, h64'.2⟩
              unfold OwnB
              rw [turnL_length, HBL.out]
              exact h64'.1
            clear h64' HI
            go_wp2
            go_ret
            exact ⟨_, rfl, HE.out⟩
end Go.Proofs.YtjlacialbfhjcaaDoor
