/-
  The document's Allow: its first loop (which buckets are kept).
-/
import Derived.Test.YtblnglkjpnpmbaaBkS
import Derived.Test.YtblnglkjpnpmbaaBkQ
namespace Go.Proofs.Ytblnglkjpnpmbaa.Bk
open Go.RowKit
set_option linter.unusedVariables false
set_option linter.unusedSimpArgs false

/-- Which of the first j are other addresses'. -/
def restTo (l : List (List UInt8 × Bu)) (m : List UInt8) (j : Nat) : List (List UInt8 × Bu) := (l.take j).filter fun p => !(p.1 == m)
theorem restTo_all (l : List (List UInt8 × Bu)) (m : List UInt8) : restTo l m l.length = rest l m := by unfold restTo rest; rw [List.take_length]
theorem restTo_yes {l : List (List UInt8 × Bu)} {m : List UInt8} {j : Nat} (hj : j < l.length) (h : l[j].1 ≠ m) : restTo l m (j + 1) = restTo l m j ++ [l[j]] := by
  unfold restTo
  rw [List.take_succ_eq_append_getElem hj, List.filter_append]
  congr 1
  simp [h]
theorem restTo_no {l : List (List UInt8 × Bu)} {m : List UInt8} {j : Nat} (hj : j < l.length) (h : l[j].1 = m) : restTo l m (j + 1) = restTo l m j := by
  unfold restTo
  rw [List.take_succ_eq_append_getElem hj, List.filter_append]
  simp [h]
theorem restTo_le (l : List (List UInt8 × Bu)) (m : List UInt8) (j : Nat) : (restTo l m j).length ≤ l.length := by
  have h1 : (restTo l m j).length ≤ (l.take j).length := List.length_filter_le _ _
  have h2 := List.length_take_le' j l
  omega
theorem infoOwn : (Try.prog.info? 72).map (fun i => (i.zero, i.size, i.bytes)) = some (some (.agg #[.int .u8 0, .int .u8 0, .int .u8 0, .int .u8 0, .int .u8 0, .int .u8 0, .int .i64 0, .int .i64 0]), 8, 24) := by kernel_rfl
/-- Which of the first i are kept. -/
def keptTo (S : Li) (t : Int) (i : Nat) : List (List UInt8 × Bu) := (S.es.take i).filter fun p => decide (tok S.own p.2 t < S.own.m)
theorem keptTo_zero (S : Li) (t : Int) : keptTo S t 0 = [] := rfl
theorem keptTo_all (S : Li) (t : Int) : keptTo S t S.es.length = kept S t := by unfold keptTo kept; rw [List.take_length]
theorem keptTo_yes {S : Li} {t : Int} {i : Nat} (hi : i < S.es.length) (h : tok S.own S.es[i].2 t < S.own.m) : keptTo S t (i + 1) = keptTo S t i ++ [S.es[i]] := by
  unfold keptTo
  rw [List.take_succ_eq_append_getElem hi, List.filter_append]
  congr 1
  simp [h]
theorem keptTo_no {S : Li} {t : Int} {i : Nat} (hi : i < S.es.length) (h : ¬ tok S.own S.es[i].2 t < S.own.m) : keptTo S t (i + 1) = keptTo S t i := by
  unfold keptTo
  rw [List.take_succ_eq_append_getElem hi, List.filter_append]
  simp [h]
theorem keptTo_sub (S : Li) (t : Int) (i : Nat) : ∀ p ∈ keptTo S t i, p ∈ S.es := fun p hp => List.mem_of_mem_take (List.mem_filter.1 hp).1
theorem keptTo_le (S : Li) (t : Int) (i : Nat) : (keptTo S t i).length ≤ S.es.length := by
  have h1 : (keptTo S t i).length ≤ (S.es.take i).length := List.length_filter_le _ _
  have h2 := List.length_take_le' i S.es
  omega
theorem keptTo_new {S : Li} (hn : (S.es.map (·.1)).Nodup) (t : Int) {i : Nat} (hi : i < S.es.length) : S.es[i].1 ∉ (keptTo S t i).map (·.1) := by
  intro h
  obtain ⟨p, hp, he⟩ := List.mem_map.1 h
  obtain ⟨j, hj, hpj⟩ := List.getElem_of_mem (List.mem_filter.1 hp).1
  rw [List.length_take] at hj
  rw [List.getElem_take] at hpj
  have := List.pairwise_iff_getElem.1 hn j i (by simp; omega) (by simpa using hi) (by omega)
  simp only [List.getElem_map] at this
  rw [hpj] at this
  exact this he
/-- What the first loop keeps. -/
structure DJ (S : Li) (t : Int) (m : List UInt8) (v0 v1 v2 v3 v4 v5 : Value) (A : Option Addr) (n C : Nat) (w wr : World) (kv : Value) (l : List (List UInt8 × Bu)) : Prop where
  own : wr.ownsRow (w.heap.size + 4) 72 8 kv l.length (flatE l)
  mine : wr.heap[w.heap.size + 3]? = some (.cells #[.int .i64 ((find l m).getD ⟨S.own.m, t⟩).k, .int .i64 ((find l m).getD ⟨S.own.m, t⟩).t] 25 (0, 0))
  lim : wr.heap[w.heap.size]? = some (.cells #[.int .i64 S.all.e, .int .i64 S.all.m, .int .i64 S.own.e, .int .i64 S.own.m, .int .i64 S.b.k, .int .i64 S.b.t, .slice A n C, .int .i64 t] 42 (0, 0))
  box : wr.heap[w.heap.size + 1]? = some (.cells #[v0, v1, v2, v3, v4, v5] 49 (0, 0))
  res : wr.heap[w.heap.size + 2]? = some (.cells #[.int .i64 0, .int .i64 0, .int .i64 0, .int .i64 0, .int .i64 0, .int .i64 0, .slice none 0 0, .int .i64 0] 42 (0, 0))
  bel : Below w.heap.size w wr
  big : w.heap.size + 4 ≤ wr.heap.size
theorem DJ.gr {S : Li} {t : Int} {m : List UInt8} {v0 v1 v2 v3 v4 v5 : Value} {A : Option Addr} {n C : Nat} {w wr wx : World} {kv : Value} {l : List (List UInt8 × Bu)} (h : DJ S t m v0 v1 v2 v3 v4 v5 A n C w wr kv l) (hb : Below wr.heap.size wr wx) : DJ S t m v0 v1 v2 v3 v4 v5 A n C w wx kv l :=
  ⟨ownsRow_below h.own hb, heap_below h.mine hb, heap_below h.lim hb, heap_below h.box hb, heap_below h.res hb, h.bel.trans (hb.mono h.bel.size), Nat.le_trans h.big hb.size⟩
/-- What stands behind the first loop. -/
structure PJ (S : Li) (t : Int) (v0 v1 v2 v3 v4 v5 : Value) (A1 : Option Addr) (C1 : Nat) (b : Bu) (KK : List (List UInt8 × Bu)) (w wr : World) : Prop where
  lim : wr.heap[w.heap.size]? = some (.cells #[.int .i64 S.all.e, .int .i64 S.all.m, .int .i64 S.own.e, .int .i64 S.own.m, .int .i64 b.k, .int .i64 b.t, .slice A1 KK.length C1, .int .i64 t] 42 (0, 0))
  box : wr.heap[w.heap.size + 1]? = some (.cells #[v0, v1, v2, v3, v4, v5] 49 (0, 0))
  res : wr.heap[w.heap.size + 2]? = some (.cells #[.int .i64 0, .int .i64 0, .int .i64 0, .int .i64 0, .int .i64 0, .int .i64 0, .slice none 0 0, .int .i64 0] 42 (0, 0))
  er : ER wr (.slice A1 KK.length C1) KK
  bel : Below w.heap.size w wr
theorem PJ.gr {S : Li} {t : Int} {v0 v1 v2 v3 v4 v5 : Value} {A1 : Option Addr} {C1 : Nat} {b : Bu} {KK : List (List UInt8 × Bu)} {w wr wx : World} (h : PJ S t v0 v1 v2 v3 v4 v5 A1 C1 b KK w wr) (hb : Below wr.heap.size wr wx) : PJ S t v0 v1 v2 v3 v4 v5 A1 C1 b KK w wx :=
  ⟨heap_below h.lim hb, heap_below h.box hb, heap_below h.res hb, h.er.below hb, h.bel.trans (hb.mono h.bel.size)⟩
theorem elem_cells {w : World} {b o i : Nat} {a0 a1 a2 a3 a4 a5 : UInt8} {x y : Int} (h : ∀ j u, (entC ([a0, a1, a2, a3, a4, a5], ⟨x, y⟩))[j]? = some u → w.cell? ⟨b, o + i * 8 + j, none⟩ = some u) :
    w.cell? ⟨b, o + i * 8, none⟩ = some (.int .u8 (a0.toNat : Int)) ∧ w.cell? ⟨b, o + i * 8 + 1, none⟩ = some (.int .u8 (a1.toNat : Int)) ∧ w.cell? ⟨b, o + i * 8 + 2, none⟩ = some (.int .u8 (a2.toNat : Int)) ∧ w.cell? ⟨b, o + i * 8 + 3, none⟩ = some (.int .u8 (a3.toNat : Int)) ∧ w.cell? ⟨b, o + i * 8 + 4, none⟩ = some (.int .u8 (a4.toNat : Int)) ∧
      w.cell? ⟨b, o + i * 8 + 5, none⟩ = some (.int .u8 (a5.toNat : Int)) ∧ w.cell? ⟨b, o + i * 8 + 6, none⟩ = some (.int .i64 x) ∧ w.cell? ⟨b, o + i * 8 + 7, none⟩ = some (.int .i64 y) :=
  ⟨h 0 _ rfl, h 1 _ rfl, h 2 _ rfl, h 3 _ rfl, h 4 _ rfl, h 5 _ rfl, h 6 _ rfl, h 7 _ rfl⟩
theorem entry_six {p : List UInt8 × Bu} (h : p.1.length = 6) : ∃ a0 a1 a2 a3 a4 a5 x y, p = ([a0, a1, a2, a3, a4, a5], ⟨x, y⟩) := by
  obtain ⟨q, ⟨x, y⟩⟩ := p
  obtain ⟨a0, a1, a2, a3, a4, a5, rfl⟩ := list6 h
  exact ⟨a0, a1, a2, a3, a4, a5, x, y, rfl⟩
theorem find_snoc_new {l : List (List UInt8 × Bu)} {m : List UInt8} {p : List UInt8 × Bu} (hn : p.1 ∉ l.map (·.1)) (he : p.1 = m) : find (l ++ [p]) m = some p.2 := by
  obtain ⟨q, x⟩ := p
  obtain rfl : q = m := he
  exact find_append_one hn
theorem find_snoc_other {l : List (List UInt8 × Bu)} {m : List UInt8} {p : List UInt8 × Bu} (he : p.1 ≠ m) : find (l ++ [p]) m = find l m := by
  obtain ⟨q, x⟩ := p
  exact find_append_other (fun e => he e.symm)
set_option maxRecDepth 20000 in
set_option maxHeartbeats 8000000 in
theorem rallow_any {S : Li} (hS : OkL S) (hf : S.es.length ≤ 256) (A : Option Addr) (n C : Nat) (s : Int) (v0 v1 v2 v3 v4 v5 : Value) (m : List UInt8) (hm : m.map u8v = [v0, v1, v2, v3, v4, v5]) (w : World) (h : ER w (.slice A n C) S.es) :
    Calls Try.prog 24 #[.agg #[.int .i64 S.all.e, .int .i64 S.all.m, .int .i64 S.own.e, .int .i64 S.own.m, .int .i64 S.b.k, .int .i64 S.b.t, .slice A n C, .int .i64 S.t], .agg #[v0, v1, v2, v3, v4, v5], .int .i64 s] w fun e w' => ∃ A' n' C', e = .returned (.tuple #[.agg #[.int .i64 (allow S m s).1.all.e, .int .i64 (allow S m s).1.all.m, .int .i64 (allow S m s).1.own.e, .int .i64 (allow S m s).1.own.m, .int .i64 (allow S m s).1.b.k, .int .i64 (allow S m s).1.b.t, .slice A' n' C', .int .i64 (allow S m s).1.t], .bool (allow S m s).2]) ∧
      ER w' (.slice A' n' C') (allow S m s).1.es ∧ Below w.heap.size w w' := by
  obtain ⟨i0, hi, hz0, hz1, hz2⟩ := info_parts infoOwn
  have h6 : m.length = 6 := by have := congrArg List.length hm; simpa using this
  have hmv : macV m = .agg #[v0, v1, v2, v3, v4, v5] := by unfold macV; rw [hm]
  obtain ⟨hln, hnc, hcm⟩ := h.len
  have HOK := Lib.hid hS
  have HFEW := Lib.hid hf
  have HER := Lib.hid h
  have HLN := Lib.hid hln
  have HMV := Lib.hid hmv
  have H6 := Lib.hid h6
  have HB3 : Hid (Below w.heap.size w (((w.alloc (.cells #[.int .i64 S.all.e, .int .i64 S.all.m, .int .i64 S.own.e, .int .i64 S.own.m, .int .i64 S.b.k, .int .i64 S.b.t, .slice A n C, .int .i64 S.t] 42)).alloc (.cells #[v0, v1, v2, v3, v4, v5] 49)).alloc (.cells #[.int .i64 0, .int .i64 0, .int .i64 0, .int .i64 0, .int .i64 0, .int .i64 0, .slice none 0 0, .int .i64 0] 42))) := boxed_three _ _ _ _
  have HL3 : Hid ((((w.alloc (.cells #[.int .i64 S.all.e, .int .i64 S.all.m, .int .i64 S.own.e, .int .i64 S.own.m, .int .i64 S.b.k, .int .i64 S.b.t, .slice A n C, .int .i64 S.t] 42)).alloc (.cells #[v0, v1, v2, v3, v4, v5] 49)).alloc (.cells #[.int .i64 0, .int .i64 0, .int .i64 0, .int .i64 0, .int .i64 0, .int .i64 0, .slice none 0 0, .int .i64 0] 42)).heap[w.heap.size]? = some (.cells #[.int .i64 S.all.e, .int .i64 S.all.m, .int .i64 S.own.e, .int .i64 S.own.m, .int .i64 S.b.k, .int .i64 S.b.t, .slice A n C, .int .i64 S.t] 42 (0, 0))) := boxed3_0 _ _ _ _
  have HX3 : Hid ((((w.alloc (.cells #[.int .i64 S.all.e, .int .i64 S.all.m, .int .i64 S.own.e, .int .i64 S.own.m, .int .i64 S.b.k, .int .i64 S.b.t, .slice A n C, .int .i64 S.t] 42)).alloc (.cells #[v0, v1, v2, v3, v4, v5] 49)).alloc (.cells #[.int .i64 0, .int .i64 0, .int .i64 0, .int .i64 0, .int .i64 0, .int .i64 0, .slice none 0 0, .int .i64 0] 42)).heap[w.heap.size + 1]? = some (.cells #[v0, v1, v2, v3, v4, v5] 49 (0, 0))) := boxed3_1 _ _ _ _
  have HR3 : Hid ((((w.alloc (.cells #[.int .i64 S.all.e, .int .i64 S.all.m, .int .i64 S.own.e, .int .i64 S.own.m, .int .i64 S.b.k, .int .i64 S.b.t, .slice A n C, .int .i64 S.t] 42)).alloc (.cells #[v0, v1, v2, v3, v4, v5] 49)).alloc (.cells #[.int .i64 0, .int .i64 0, .int .i64 0, .int .i64 0, .int .i64 0, .int .i64 0, .slice none 0 0, .int .i64 0] 42)).heap[w.heap.size + 2]? = some (.cells #[.int .i64 0, .int .i64 0, .int .i64 0, .int .i64 0, .int .i64 0, .int .i64 0, .slice none 0 0, .int .i64 0] 42 (0, 0))) := boxed3_2 _ _ _ _
  have HS3 : Hid ((((w.alloc (.cells #[.int .i64 S.all.e, .int .i64 S.all.m, .int .i64 S.own.e, .int .i64 S.own.m, .int .i64 S.b.k, .int .i64 S.b.t, .slice A n C, .int .i64 S.t] 42)).alloc (.cells #[v0, v1, v2, v3, v4, v5] 49)).alloc (.cells #[.int .i64 0, .int .i64 0, .int .i64 0, .int .i64 0, .int .i64 0, .int .i64 0, .slice none 0 0, .int .i64 0] 42)).heap.size = w.heap.size + 3) := by show _ = _; rw [World.size_alloc, World.size_alloc, World.size_alloc]
  obtain ⟨t, ht⟩ : ∃ t, t = tickOf S s := ⟨_, rfl⟩
  have HTK := Lib.hid ht
  have HTC : Hid ((S.t ≤ s ∧ s ≤ 1099511627776 ∧ t = s) ∨ (s < S.t ∧ t = S.t) ∨ (S.t ≤ s ∧ 1099511627776 < s ∧ t = S.t)) := by
    show _ ∨ _
    rw [ht]
    unfold tickOf top
    by_cases h1 : S.t ≤ s
    · by_cases h2 : s ≤ 1099511627776
      · exact .inl ⟨h1, h2, if_pos ⟨h1, h2⟩⟩
      · exact .inr (.inr ⟨h1, by omega, if_neg (fun h => h2 h.2)⟩)
    · exact .inr (.inl ⟨by omega, if_neg (fun h => h1 h.1)⟩)
  clear hS hf h hln hnc hcm hmv h6 hm ht
  go_enter Try.func24, Try.ntmps24
  go_upto_region 1 with fail
  generalize ((w.alloc (.cells #[.int .i64 S.all.e, .int .i64 S.all.m, .int .i64 S.own.e, .int .i64 S.own.m, .int .i64 S.b.k, .int .i64 S.b.t, .slice A n C, .int .i64 S.t] 42)).alloc (.cells #[v0, v1, v2, v3, v4, v5] 49)).alloc (.cells #[.int .i64 0, .int .i64 0, .int .i64 0, .int .i64 0, .int .i64 0, .int .i64 0, .slice none 0 0, .int .i64 0] 42) = w3 at HB3 HL3 HX3 HR3 HS3 ⊢
  obtain ⟨B0, hB0⟩ : ∃ b, b = decide (S.t ≤ s ∧ s ≤ 1099511627776) := ⟨_, rfl⟩
  have HB0 := Lib.hid hB0
  clear hB0
  obtain ⟨k0, k1, k2, k3, k4, k5, k6, k7⟩ := cells8 HL3.out
  go_cut [27] (fun s27 wx => s27 = .bool B0 ∧ wx = w3)
  case first =>
    rcases HTC.out with ⟨h1, h2, _⟩ | ⟨h1, _⟩ | ⟨h1, h2, _⟩
    · have HBQ : Hid (B0 = true) := HB0.out.trans (decide_eq_true ⟨h1, h2⟩)
      go_wp2_with fail
      go_meet
      exact ⟨by rw [HBQ.out], rfl⟩
    · have HBQ : Hid (B0 = false) := HB0.out.trans (decide_eq_false fun h => by omega)
      go_wp2_with fail
      go_meet
      exact ⟨by rw [HBQ.out], rfl⟩
    · have HBQ : Hid (B0 = false) := HB0.out.trans (decide_eq_false fun h => by omega)
      go_wp2_with fail
      go_meet
      exact ⟨by rw [HBQ.out]; first | rfl | (simp; omega), rfl⟩
  case rest =>
    obtain ⟨hs27, hwc⟩ := hcut
    subst hs27 hwc
    obtain ⟨w3, hw3⟩ : ∃ x, x = wc := ⟨_, rfl⟩
    subst hw3
    have f7 := frozen_of_row _ _ 7 _ _ HL3.out
    have HT1 : Hid ((B0 = true ∧ t = s) ∨ (B0 = false ∧ t = S.t)) := by
      rcases HTC.out with ⟨h1, h2, h3⟩ | ⟨h1, h3⟩ | ⟨h1, h2, h3⟩
      · exact .inl ⟨HB0.out.trans (decide_eq_true ⟨h1, h2⟩), h3⟩
      · exact .inr ⟨HB0.out.trans (decide_eq_false fun h => by omega), h3⟩
      · exact .inr ⟨HB0.out.trans (decide_eq_false fun h => by omega), h3⟩
    go_upto_if 27 with fail
    go_cut [27] (fun _ wx => Hid (wx.heap[w.heap.size]? = some (.cells #[.int .i64 S.all.e, .int .i64 S.all.m, .int .i64 S.own.e, .int .i64 S.own.m, .int .i64 S.b.k, .int .i64 S.b.t, .slice A n C, .int .i64 t] 42 (0, 0))) ∧ Hid (Only w.heap.size w3 wx) ∧ Hid (wx.heap.size = w3.heap.size))
    case first =>
      rcases HT1.out with ⟨h1, h2⟩ | ⟨h1, h2⟩
      · subst h1
        have HH := Lib.hid h2
        clear h2
        go_wp2_with fail
        go_meet
        rw [HH.out]
        exact ⟨heap_setCell_same _ _ 7 _ _ _ HL3.out, Only.setCell _ _ _, (by simp [World.setCell] : ((w3.setCell ⟨w.heap.size, 7, none⟩ (.int .i64 s)).heap.size = w3.heap.size))⟩
      · subst h1
        have HH := Lib.hid h2
        clear h2
        go_wp2_with fail
        go_meet
        rw [HH.out]
        exact ⟨HL3.out, Only.refl _ _, rfl⟩
    case rest =>
      obtain ⟨hl4, ho4, hs4⟩ := hcut
      obtain ⟨w4, hw4⟩ : ∃ x, x = wc := ⟨_, rfl⟩
      subst hw4
      have HB4 := Lib.hid (ho4.out.below w.heap.size w (Nat.le_refl _) HB3.out)
      have HX4 : Hid (w4.heap[w.heap.size + 1]? = some (.cells #[v0, v1, v2, v3, v4, v5] 49 (0, 0))) := (ho4.out.heap _ (Array.getElem?_eq_some_iff.1 HX3.out).1 (by omega)).trans HX3.out
      have HR4 : Hid (w4.heap[w.heap.size + 2]? = some (.cells #[.int .i64 0, .int .i64 0, .int .i64 0, .int .i64 0, .int .i64 0, .int .i64 0, .slice none 0 0, .int .i64 0] 42 (0, 0))) := (ho4.out.heap _ (Array.getElem?_eq_some_iff.1 HR3.out).1 (by omega)).trans HR3.out
      have HS4 : Hid (w4.heap.size = w.heap.size + 3) := hs4.out.trans HS3.out
      have HDJ : Hid (DJ S t m v0 v1 v2 v3 v4 v5 A n C w (w4.alloc (.cells #[.int .i64 S.own.m, .int .i64 t] 25)) (.slice none 0 0) []) := by
        have ha : Below w4.heap.size w4 (w4.alloc (.cells #[.int .i64 S.own.m, .int .i64 t] 25)) := (Below.refl _ _).alloc (Nat.le_refl _) _
        have hl := heap_alloc_last w4 (.cells #[.int .i64 S.own.m, .int .i64 t] 25)
        rw [HS4.out] at hl
        exact ⟨World.ownsRow_nil _ _ _ _, hl, heap_below hl4.out ha, heap_below HX4.out ha, heap_below HR4.out ha, HB4.out.trans (ha.mono HB4.out.size), by rw [World.size_alloc, HS4.out]; exact Nat.le_refl _⟩
      have HL4 := Lib.hid hl4.out
      clear hl4 ho4 hs4 f7 k0 k1 k2 k3 k4 k5 k6 k7 HB3 HL3 HX3 HR3 HS3 HT1 HB0
      obtain ⟨k0, k1, k2, k3, k4, k5, k6, k7⟩ := cells8 HL4.out
      go_wp2_with fail
      rw [HS4.out]
      generalize w4.alloc (.cells #[.int .i64 S.own.m, .int .i64 t] 25) = w5 at HDJ ⊢
      have HTT : Hid (S.t ≤ t ∧ t ≤ top) := by
        have := tickOf_ge S s HOK.out.t1
        rw [← HTK.out] at this
        exact this
      clear k0 k1 k2 k3 k4 k5 k6 k7 HB4 HX4 HR4 HS4 HL4
      go_loopw [8, 10, 11] (fun kv tv iv wr => ∃ i : Nat, i ≤ n ∧ iv = .int .i64 (i : Int) ∧ tv = .bool (find (keptTo S t i) m).isSome ∧ DJ S t m v0 v1 v2 v3 v4 v5 A n C w wr kv (keptTo S t i)) (fun _ _ iv _ => n - (intOf iv).toNat)
      case atStart => exact ⟨0, Nat.zero_le _, rfl, rfl, HDJ.out⟩
      case round =>
        clear HDJ
        obtain ⟨i, hin, hiv, htv, hdj⟩ := hrel
        subst hiv htv
        have HDI := Lib.hid hdj
        have hn256 : n ≤ 256 := by have h1 := HFEW.out; have h2 := HLN.out; omega
        obtain ⟨k0, k1, k2, k3, k4, k5, k6, k7⟩ := cells8 HDI.out.lim
        clear hdj
        by_cases hlt : i < n
        · --DEV{
          have hlt' : i < S.es.length := by rw [HLN.out]; exact hlt
          obtain ⟨b, o, rfl, hbl, hc⟩ := HER.out.cells hlt'
          obtain ⟨a0, a1, a2, a3, a4, a5, x, y, he⟩ := entry_six (HER.out.six _ (List.getElem_mem hlt'))
          rw [he] at hc
          have HCL : Hid (∀ w', Below w.heap.size w w' → (w'.cell? ⟨b, o + i * 8, none⟩ = some (.int .u8 (a0.toNat : Int)) ∧ w'.cell? ⟨b, o + i * 8 + 1, none⟩ = some (.int .u8 (a1.toNat : Int)) ∧ w'.cell? ⟨b, o + i * 8 + 2, none⟩ = some (.int .u8 (a2.toNat : Int)) ∧ w'.cell? ⟨b, o + i * 8 + 3, none⟩ = some (.int .u8 (a3.toNat : Int)) ∧ w'.cell? ⟨b, o + i * 8 + 4, none⟩ = some (.int .u8 (a4.toNat : Int)) ∧
              w'.cell? ⟨b, o + i * 8 + 5, none⟩ = some (.int .u8 (a5.toNat : Int)) ∧ w'.cell? ⟨b, o + i * 8 + 6, none⟩ = some (.int .i64 x) ∧ w'.cell? ⟨b, o + i * 8 + 7, none⟩ = some (.int .i64 y))) :=
            fun w' hw => elem_cells (fun j u hu => by rw [hw.cell hbl]; exact hc j u hu)
          have HMEM : Hid (([a0, a1, a2, a3, a4, a5], (⟨x, y⟩ : Bu)) ∈ S.es) := by show _ ∈ _; rw [← he]; exact List.getElem_mem hlt'
          have HII : Hid (∃ h : i < S.es.length, S.es[i] = ([a0, a1, a2, a3, a4, a5], (⟨x, y⟩ : Bu))) := ⟨hlt', he⟩
          have HNEW : Hid ([a0, a1, a2, a3, a4, a5] ∉ (keptTo S t i).map (·.1)) := by
            have := keptTo_new HOK.out.keys t hlt'
            rw [he] at this
            exact this
          obtain ⟨T, hT⟩ : ∃ T, T = tok S.own ⟨x, y⟩ t := ⟨_, rfl⟩
          have HTT2 := Lib.hid hT
          have HAT : Hid (∀ w, Calls Try.prog 12 #[.agg #[.int .i64 S.own.e, .int .i64 S.own.m], .agg #[.int .i64 x, .int .i64 y], .int .i64 t] w fun e w' => e = .returned (.tuple #[.agg #[.int .i64 T, .int .i64 t], .int .i64 0]) ∧ Below w.heap.size w w') := fun w => by
            have h0 := HOK.out.es _ HMEM.out
            have hok : okAt S.own ⟨x, y⟩ t := ⟨HOK.out.own, h0.1, Int.le_trans h0.2 HTT.out.1, HTT.out.2⟩
            have h1 := rat_any S.own.e S.own.m x y t w
            have h2 : atB ⟨S.own.e, S.own.m⟩ ⟨x, y⟩ t = ⟨tok S.own ⟨x, y⟩ t, t⟩ := if_pos hok
            have h3 : atE ⟨S.own.e, S.own.m⟩ ⟨x, y⟩ t = 0 := if_pos hok
            rw [h2, h3, ← hT] at h1
            exact h1
          clear hc hbl he hT hlt'
          go_upto_region 9 with fail
          clear k0 k1 k2 k3 k4 k5 k6 k7
          go_cut [12, 13] (fun s12 s13 wx => ∃ gq, s12 = .pointer (some ⟨gq, 0, none⟩) ∧ Hid (wx.heap[gq]? = some (.cells #[.int .i64 T, .int .i64 t] 25 (0, 0))) ∧ Hid (Gr wr wx))
          case first =>
            have HC : Hid (Gr wr wr.drew) := Gr.drew wr
            refine wp_region_G 17 (Below (wr.heap.size)) (by kernel_rfl) ?_
            generalize wr.drew = wc at HC ⊢
            -- 0: slot 44
            refine wpG_take (preBelow (wr.heap.size)) (i := 0) (v := ?_) (by kernel_rfl) (some 44) (by kernel_rfl) rfl (by kernel_rfl) (by kernel_rfl) (by kernel_rfl) (fun _ _ _ h => h) (by rfl) (fun w' hw' => ?_) rfl ?_
            rotate_left
            · try (have hbw := HDI.out.gr (Below.trans HC.out hw'); have hq8 := cells8 hbw.lim; obtain ⟨k0, k1, k2, k3, k4, k5, k6, k7⟩ := hq8; have hqc := HCL.out _ hbw.bel; obtain ⟨c0, c1, c2, c3, c4, c5, c6, c7⟩ := hqc; clear hbw)
              go_simp
              with_reducible rfl
            simp only [Act.put, List.setIfInBounds_toArray, List.set_cons_zero, List.set_cons_succ]
            -- 1: slot 45
            refine wpG_take (preBelow (wr.heap.size)) (i := 1) (v := ?_) (by kernel_rfl) (some 45) (by kernel_rfl) rfl (by kernel_rfl) (by kernel_rfl) (by kernel_rfl) (fun _ _ _ h => h) (by rfl) (fun w' hw' => ?_) rfl ?_
            rotate_left
            · try (have hbw := HDI.out.gr (Below.trans HC.out hw'); have hq8 := cells8 hbw.lim; obtain ⟨k0, k1, k2, k3, k4, k5, k6, k7⟩ := hq8; have hqc := HCL.out _ hbw.bel; obtain ⟨c0, c1, c2, c3, c4, c5, c6, c7⟩ := hqc; clear hbw)
              go_simp
              with_reducible rfl
            simp only [Act.put, List.setIfInBounds_toArray, List.set_cons_zero, List.set_cons_succ]
            -- 2: slot 46
            refine wpG_take (preBelow (wr.heap.size)) (i := 2) (v := ?_) (by kernel_rfl) (some 46) (by kernel_rfl) rfl (by kernel_rfl) (by kernel_rfl) (by kernel_rfl) (fun _ _ _ h => h) (by rfl) (fun w' hw' => ?_) rfl ?_
            rotate_left
            · try (have hbw := HDI.out.gr (Below.trans HC.out hw'); have hq8 := cells8 hbw.lim; obtain ⟨k0, k1, k2, k3, k4, k5, k6, k7⟩ := hq8; have hqc := HCL.out _ hbw.bel; obtain ⟨c0, c1, c2, c3, c4, c5, c6, c7⟩ := hqc; clear hbw)
              go_simp
              with_reducible rfl
            simp only [Act.put, List.setIfInBounds_toArray, List.set_cons_zero, List.set_cons_succ]
            -- 3: slot 47
            refine wpG_take (preBelow (wr.heap.size)) (i := 3) (v := ?_) (by kernel_rfl) (some 47) (by kernel_rfl) rfl (by kernel_rfl) (by kernel_rfl) (by kernel_rfl) (fun _ _ _ h => h) (by rfl) (fun w' hw' => ?_) rfl ?_
            rotate_left
            · try (have hbw := HDI.out.gr (Below.trans HC.out hw'); have hq8 := cells8 hbw.lim; obtain ⟨k0, k1, k2, k3, k4, k5, k6, k7⟩ := hq8; have hqc := HCL.out _ hbw.bel; obtain ⟨c0, c1, c2, c3, c4, c5, c6, c7⟩ := hqc; clear hbw)
              go_simp
              with_reducible rfl
            simp only [Act.put, List.setIfInBounds_toArray, List.set_cons_zero, List.set_cons_succ]
            -- 4: slot 48
            refine wpG_take (preBelow (wr.heap.size)) (i := 4) (v := ?_) (by kernel_rfl) (some 48) (by kernel_rfl) rfl (by kernel_rfl) (by kernel_rfl) (by kernel_rfl) (fun _ _ _ h => h) (by rfl) (fun w' hw' => ?_) rfl ?_
            rotate_left
            · try (have hbw := HDI.out.gr (Below.trans HC.out hw'); have hq8 := cells8 hbw.lim; obtain ⟨k0, k1, k2, k3, k4, k5, k6, k7⟩ := hq8; have hqc := HCL.out _ hbw.bel; obtain ⟨c0, c1, c2, c3, c4, c5, c6, c7⟩ := hqc; clear hbw)
              go_simp
              with_reducible rfl
            simp only [Act.put, List.setIfInBounds_toArray, List.set_cons_zero, List.set_cons_succ]
            -- 5: slot 49
            refine wpG_take (preBelow (wr.heap.size)) (i := 5) (v := ?_) (by kernel_rfl) (some 49) (by kernel_rfl) rfl (by kernel_rfl) (by kernel_rfl) (by kernel_rfl) (fun _ _ _ h => h) (by rfl) (fun w' hw' => ?_) rfl ?_
            rotate_left
            · try (have hbw := HDI.out.gr (Below.trans HC.out hw'); have hq8 := cells8 hbw.lim; obtain ⟨k0, k1, k2, k3, k4, k5, k6, k7⟩ := hq8; have hqc := HCL.out _ hbw.bel; obtain ⟨c0, c1, c2, c3, c4, c5, c6, c7⟩ := hqc; clear hbw)
              go_simp
              with_reducible rfl
            simp only [Act.put, List.setIfInBounds_toArray, List.set_cons_zero, List.set_cons_succ]
            -- 6: slot 50
            refine wpG_take (preBelow (wr.heap.size)) (i := 6) (v := ?_) (by kernel_rfl) (some 50) (by kernel_rfl) rfl (by kernel_rfl) (by kernel_rfl) (by kernel_rfl) (fun _ _ _ h => h) (by rfl) (fun w' hw' => ?_) rfl ?_
            rotate_left
            · try (have hbw := HDI.out.gr (Below.trans HC.out hw'); have hq8 := cells8 hbw.lim; obtain ⟨k0, k1, k2, k3, k4, k5, k6, k7⟩ := hq8; have hqc := HCL.out _ hbw.bel; obtain ⟨c0, c1, c2, c3, c4, c5, c6, c7⟩ := hqc; clear hbw)
              go_simp
              with_reducible rfl
            simp only [Act.put, List.setIfInBounds_toArray, List.set_cons_zero, List.set_cons_succ]
            -- 7: slot 51
            refine wpG_take (preBelow (wr.heap.size)) (i := 7) (v := ?_) (by kernel_rfl) (some 51) (by kernel_rfl) rfl (by kernel_rfl) (by kernel_rfl) (by kernel_rfl) (fun _ _ _ h => h) (by rfl) (fun w' hw' => ?_) rfl ?_
            rotate_left
            · try (have hbw := HDI.out.gr (Below.trans HC.out hw'); have hq8 := cells8 hbw.lim; obtain ⟨k0, k1, k2, k3, k4, k5, k6, k7⟩ := hq8; have hqc := HCL.out _ hbw.bel; obtain ⟨c0, c1, c2, c3, c4, c5, c6, c7⟩ := hqc; clear hbw)
              go_simp
              with_reducible rfl
            simp only [Act.put, List.setIfInBounds_toArray, List.set_cons_zero, List.set_cons_succ]
            -- 8: slot 52
            refine wpG_take (preBelow (wr.heap.size)) (i := 8) (v := ?_) (by kernel_rfl) (some 52) (by kernel_rfl) rfl (by kernel_rfl) (by kernel_rfl) (by kernel_rfl) (fun _ _ _ h => h) (by rfl) (fun w' hw' => ?_) rfl ?_
            rotate_left
            · try (have hbw := HDI.out.gr (Below.trans HC.out hw'); have hq8 := cells8 hbw.lim; obtain ⟨k0, k1, k2, k3, k4, k5, k6, k7⟩ := hq8; have hqc := HCL.out _ hbw.bel; obtain ⟨c0, c1, c2, c3, c4, c5, c6, c7⟩ := hqc; clear hbw)
              go_simp
              with_reducible rfl
            simp only [Act.put, List.setIfInBounds_toArray, List.set_cons_zero, List.set_cons_succ]
            -- 9: slot 53
            refine wpG_take (preBelow (wr.heap.size)) (i := 9) (v := ?_) (by kernel_rfl) (some 53) (by kernel_rfl) rfl (by kernel_rfl) (by kernel_rfl) (by kernel_rfl) (fun _ _ _ h => h) (by rfl) (fun w' hw' => ?_) rfl ?_
            rotate_left
            · try (have hbw := HDI.out.gr (Below.trans HC.out hw'); have hq8 := cells8 hbw.lim; obtain ⟨k0, k1, k2, k3, k4, k5, k6, k7⟩ := hq8; have hqc := HCL.out _ hbw.bel; obtain ⟨c0, c1, c2, c3, c4, c5, c6, c7⟩ := hqc; clear hbw)
              go_simp
              with_reducible rfl
            simp only [Act.put, List.setIfInBounds_toArray, List.set_cons_zero, List.set_cons_succ]
            refine wpG_two (i := 10) (j := 14) rfl rfl (by kernel_rfl) (by rfl) (by rfl) ?_ ?_
            · go_simp
              refine (HAT.out wc).mono ?_
              rintro e wn ⟨rfl, hb⟩
              refine ⟨hb.mono (Below.size HC.out), ?_⟩
              try (have HK' := Lib.hid (heap_below HK.out hb); clear HK; have HK := HK'; clear HK')
              have HC' : Hid (Gr wr wn) := Below.trans HC.out (Below.mono hb (Below.size HC.out))
              clear HC hb
              have HC := HC'
              clear HC'
              obtain ⟨wc, hwc⟩ : ∃ x, x = wn := ⟨_, rfl⟩
              subst hwc
              try simp only [Act.put, List.setIfInBounds_toArray, List.set_cons_zero, List.set_cons_succ]
              -- 11: slot 43
              refine wpG_take (preBelow (wr.heap.size)) (i := 11) (v := ?_) (by kernel_rfl) (some 43) (by kernel_rfl) rfl (by kernel_rfl) (by kernel_rfl) (by kernel_rfl) (fun _ _ _ h => h) (by rfl) (fun w' hw' => ?_) rfl ?_
              rotate_left
              · try (have hbw := HDI.out.gr (Below.trans HC.out hw'); have hq8 := cells8 hbw.lim; obtain ⟨k0, k1, k2, k3, k4, k5, k6, k7⟩ := hq8; have hqc := HCL.out _ hbw.bel; obtain ⟨c0, c1, c2, c3, c4, c5, c6, c7⟩ := hqc; clear hbw)
                go_simp
                with_reducible rfl
              simp only [Act.put, List.setIfInBounds_toArray, List.set_cons_zero, List.set_cons_succ]
              -- 12: slot 55
              refine wpG_take (preBelow (wr.heap.size)) (i := 12) (v := ?_) (by kernel_rfl) (some 55) (by kernel_rfl) rfl (by kernel_rfl) (by kernel_rfl) (by kernel_rfl) (fun _ _ _ h => h) (by rfl) (fun w' hw' => ?_) rfl ?_
              rotate_left
              · try (have hbw := HDI.out.gr (Below.trans HC.out hw'); have hq8 := cells8 hbw.lim; obtain ⟨k0, k1, k2, k3, k4, k5, k6, k7⟩ := hq8; have hqc := HCL.out _ hbw.bel; obtain ⟨c0, c1, c2, c3, c4, c5, c6, c7⟩ := hqc; clear hbw)
                go_simp
                with_reducible rfl
              simp only [Act.put, List.setIfInBounds_toArray, List.set_cons_zero, List.set_cons_succ]
              -- 13: slot 56
              refine wpG_take (preBelow (wr.heap.size)) (i := 13) (v := ?_) (by kernel_rfl) (some 56) (by kernel_rfl) rfl (by kernel_rfl) (by kernel_rfl) (by kernel_rfl) (fun _ _ _ h => h) (by rfl) (fun w' hw' => ?_) rfl ?_
              rotate_left
              · try (have hbw := HDI.out.gr (Below.trans HC.out hw'); have hq8 := cells8 hbw.lim; obtain ⟨k0, k1, k2, k3, k4, k5, k6, k7⟩ := hq8; have hqc := HCL.out _ hbw.bel; obtain ⟨c0, c1, c2, c3, c4, c5, c6, c7⟩ := hqc; clear hbw)
                go_simp
                with_reducible rfl
              simp only [Act.put, List.setIfInBounds_toArray, List.set_cons_zero, List.set_cons_succ]
              refine wpG_one (i := 14) rfl (by kernel_rfl) (by rfl) ?_
              go_simp
              have hb : Below wc.heap.size wc (wc.alloc (.cells #[.int .i64 0, .int .i64 0] 25)) := (Below.refl _ _).alloc (Nat.le_refl _) _
              refine ⟨hb.mono (Below.size HC.out), ?_⟩
              have hk : (wc.alloc (.cells #[.int .i64 0, .int .i64 0] 25)).heap[wc.heap.size]? = some (.cells #[.int .i64 0, .int .i64 0] 25 (0, 0)) := heap_alloc_last _ _
              have hgb : wr.heap.size ≤ wc.heap.size := Below.size HC.out
              generalize wc.alloc (.cells #[.int .i64 0, .int .i64 0] 25) = wn at hb hk ⊢
              have HC' : Hid (Gr wr wn) := Below.trans HC.out (Below.mono hb (Below.size HC.out))
              clear HC
              have HC := HC'
              clear HC'
              obtain ⟨gk, hgk⟩ : ∃ g, g = wc.heap.size := ⟨_, rfl⟩
              rw [← hgk] at hk hgb ⊢
              have HK := Lib.hid hk
              have HGB := Lib.hid hgb
              clear hgk hb hk hgb
              obtain ⟨wc, hwc⟩ : ∃ x, x = wn := ⟨_, rfl⟩
              subst hwc
              try simp only [Act.put, List.setIfInBounds_toArray, List.set_cons_zero, List.set_cons_succ]
              refine wpG_one (i := 15) rfl (by kernel_rfl) (by rfl) ?_
              refine wp_store_whole (none) 25 (.tmp 12) (.tmp 55) rfl gk [.int .i64 T, .int .i64 t] rfl rfl 25 [.int .i64 0, .int .i64 0] HK.out (by kernel_rfl) rfl ?o1 rfl ?_
              case o1 => intro u hu; simp only [List.mem_cons, List.not_mem_nil, or_false] at hu; rcases hu with rfl | rfl <;> rfl
              intro wn h5 ho
              refine ⟨ho.below _ _ HGB.out (Below.refl _ _), ?_⟩
              have HE5 : Hid (wn.heap[gk]? = some (.cells #[.int .i64 T, .int .i64 t] 25 (0, 0))) := h5
              have HE6 : Hid (Gr wr wn) := ho.below _ _ HGB.out HC.out
              clear h5 ho
              try simp only [Act.put, List.setIfInBounds_toArray, List.set_cons_zero, List.set_cons_succ]
              -- 16: slot 13
              refine wpG_take (preBelow (wr.heap.size)) (i := 16) (v := ?_) (by kernel_rfl) (some 13) (by kernel_rfl) rfl (by kernel_rfl) (by kernel_rfl) (by kernel_rfl) (fun _ _ _ h => h) (by rfl) (fun w' hw' => ?_) rfl ?_
              rotate_left
              · try (have hbw := HDI.out.gr (Below.trans HC.out hw'); have hq8 := cells8 hbw.lim; obtain ⟨k0, k1, k2, k3, k4, k5, k6, k7⟩ := hq8; have hqc := HCL.out _ hbw.bel; obtain ⟨c0, c1, c2, c3, c4, c5, c6, c7⟩ := hqc; clear hbw)
                go_simp
                with_reducible rfl
              simp only [Act.put, List.setIfInBounds_toArray, List.set_cons_zero, List.set_cons_succ]
              refine wpG_done (by kernel_rfl) ?_ _
              go_wp2_with fail
              go_meet
              exact ⟨gk, rfl, HE5, HE6⟩
            · go_simp
              have hb : Below wc.heap.size wc (wc.alloc (.cells #[.int .i64 0, .int .i64 0] 25)) := (Below.refl _ _).alloc (Nat.le_refl _) _
              refine ⟨hb.mono (Below.size HC.out), ?_⟩
              have hk : (wc.alloc (.cells #[.int .i64 0, .int .i64 0] 25)).heap[wc.heap.size]? = some (.cells #[.int .i64 0, .int .i64 0] 25 (0, 0)) := heap_alloc_last _ _
              have hgb : wr.heap.size ≤ wc.heap.size := Below.size HC.out
              generalize wc.alloc (.cells #[.int .i64 0, .int .i64 0] 25) = wn at hb hk ⊢
              have HC' : Hid (Gr wr wn) := Below.trans HC.out (Below.mono hb (Below.size HC.out))
              clear HC
              have HC := HC'
              clear HC'
              obtain ⟨gk, hgk⟩ : ∃ g, g = wc.heap.size := ⟨_, rfl⟩
              rw [← hgk] at hk hgb ⊢
              have HK := Lib.hid hk
              have HGB := Lib.hid hgb
              clear hgk hb hk hgb
              obtain ⟨wc, hwc⟩ : ∃ x, x = wn := ⟨_, rfl⟩
              subst hwc
              try simp only [Act.put, List.setIfInBounds_toArray, List.set_cons_zero, List.set_cons_succ]
              refine wpG_one (i := 10) rfl (by kernel_rfl) (by rfl) ?_
              go_simp
              refine (HAT.out wc).mono ?_
              rintro e wn ⟨rfl, hb⟩
              refine ⟨hb.mono (Below.size HC.out), ?_⟩
              try (have HK' := Lib.hid (heap_below HK.out hb); clear HK; have HK := HK'; clear HK')
              have HC' : Hid (Gr wr wn) := Below.trans HC.out (Below.mono hb (Below.size HC.out))
              clear HC hb
              have HC := HC'
              clear HC'
              obtain ⟨wc, hwc⟩ : ∃ x, x = wn := ⟨_, rfl⟩
              subst hwc
              try simp only [Act.put, List.setIfInBounds_toArray, List.set_cons_zero, List.set_cons_succ]
              -- 11: slot 43
              refine wpG_take (preBelow (wr.heap.size)) (i := 11) (v := ?_) (by kernel_rfl) (some 43) (by kernel_rfl) rfl (by kernel_rfl) (by kernel_rfl) (by kernel_rfl) (fun _ _ _ h => h) (by rfl) (fun w' hw' => ?_) rfl ?_
              rotate_left
              · try (have hbw := HDI.out.gr (Below.trans HC.out hw'); have hq8 := cells8 hbw.lim; obtain ⟨k0, k1, k2, k3, k4, k5, k6, k7⟩ := hq8; have hqc := HCL.out _ hbw.bel; obtain ⟨c0, c1, c2, c3, c4, c5, c6, c7⟩ := hqc; clear hbw)
                go_simp
                with_reducible rfl
              simp only [Act.put, List.setIfInBounds_toArray, List.set_cons_zero, List.set_cons_succ]
              -- 12: slot 55
              refine wpG_take (preBelow (wr.heap.size)) (i := 12) (v := ?_) (by kernel_rfl) (some 55) (by kernel_rfl) rfl (by kernel_rfl) (by kernel_rfl) (by kernel_rfl) (fun _ _ _ h => h) (by rfl) (fun w' hw' => ?_) rfl ?_
              rotate_left
              · try (have hbw := HDI.out.gr (Below.trans HC.out hw'); have hq8 := cells8 hbw.lim; obtain ⟨k0, k1, k2, k3, k4, k5, k6, k7⟩ := hq8; have hqc := HCL.out _ hbw.bel; obtain ⟨c0, c1, c2, c3, c4, c5, c6, c7⟩ := hqc; clear hbw)
                go_simp
                with_reducible rfl
              simp only [Act.put, List.setIfInBounds_toArray, List.set_cons_zero, List.set_cons_succ]
              -- 13: slot 56
              refine wpG_take (preBelow (wr.heap.size)) (i := 13) (v := ?_) (by kernel_rfl) (some 56) (by kernel_rfl) rfl (by kernel_rfl) (by kernel_rfl) (by kernel_rfl) (fun _ _ _ h => h) (by rfl) (fun w' hw' => ?_) rfl ?_
              rotate_left
              · try (have hbw := HDI.out.gr (Below.trans HC.out hw'); have hq8 := cells8 hbw.lim; obtain ⟨k0, k1, k2, k3, k4, k5, k6, k7⟩ := hq8; have hqc := HCL.out _ hbw.bel; obtain ⟨c0, c1, c2, c3, c4, c5, c6, c7⟩ := hqc; clear hbw)
                go_simp
                with_reducible rfl
              simp only [Act.put, List.setIfInBounds_toArray, List.set_cons_zero, List.set_cons_succ]
              refine wpG_one (i := 15) rfl (by kernel_rfl) (by rfl) ?_
              refine wp_store_whole (none) 25 (.tmp 12) (.tmp 55) rfl gk [.int .i64 T, .int .i64 t] rfl rfl 25 [.int .i64 0, .int .i64 0] HK.out (by kernel_rfl) rfl ?o1 rfl ?_
              case o1 => intro u hu; simp only [List.mem_cons, List.not_mem_nil, or_false] at hu; rcases hu with rfl | rfl <;> rfl
              intro wn h5 ho
              refine ⟨ho.below _ _ HGB.out (Below.refl _ _), ?_⟩
              have HE5 : Hid (wn.heap[gk]? = some (.cells #[.int .i64 T, .int .i64 t] 25 (0, 0))) := h5
              have HE6 : Hid (Gr wr wn) := ho.below _ _ HGB.out HC.out
              clear h5 ho
              try simp only [Act.put, List.setIfInBounds_toArray, List.set_cons_zero, List.set_cons_succ]
              -- 16: slot 13
              refine wpG_take (preBelow (wr.heap.size)) (i := 16) (v := ?_) (by kernel_rfl) (some 13) (by kernel_rfl) rfl (by kernel_rfl) (by kernel_rfl) (by kernel_rfl) (fun _ _ _ h => h) (by rfl) (fun w' hw' => ?_) rfl ?_
              rotate_left
              · try (have hbw := HDI.out.gr (Below.trans HC.out hw'); have hq8 := cells8 hbw.lim; obtain ⟨k0, k1, k2, k3, k4, k5, k6, k7⟩ := hq8; have hqc := HCL.out _ hbw.bel; obtain ⟨c0, c1, c2, c3, c4, c5, c6, c7⟩ := hqc; clear hbw)
                go_simp
                with_reducible rfl
              simp only [Act.put, List.setIfInBounds_toArray, List.set_cons_zero, List.set_cons_succ]
              refine wpG_done (by kernel_rfl) ?_ _
              go_wp2_with fail
              go_meet
              exact ⟨gk, rfl, HE5, HE6⟩
          case rest =>
            obtain ⟨gq, hs12, hq, hb⟩ := hcut
            subst hs12
            obtain ⟨w6, hw6⟩ : ∃ x, x = wc := ⟨_, rfl⟩
            subst hw6
            have HD6 := Lib.hid (HDI.out.gr hb.out)
            have HQ6 := Lib.hid hq.out
            clear hq hb HDI HAT
            obtain ⟨m0, m1⟩ := cells2 HQ6.out
            obtain ⟨k0, k1, k2, k3, k4, k5, k6, k7⟩ := cells8 HD6.out.lim
            by_cases hk : T < S.own.m
            · have HNX : Hid (keptTo S t (i + 1) = keptTo S t i ++ [([a0, a1, a2, a3, a4, a5], (⟨x, y⟩ : Bu))]) := by
                obtain ⟨h1, h2⟩ := HII.out
                have := keptTo_yes (S := S) (t := t) h1 (by rw [h2]; show tok S.own ⟨x, y⟩ t < S.own.m; rw [← HTT2.out]; exact hk)
                rw [h2] at this
                exact this
              have HLE : Hid ((keptTo S t i).length ≤ 256) := Nat.le_trans (keptTo_le S t i) HFEW.out
              go_upto_region 11 with fail
              clear m0 m1 k0 k1 k2 k3 k4 k5 k6 k7 hk
              have HC : Hid (Gr w6 w6.drew) := Gr.drew w6
              refine wp_region_G 17 (Below (w.heap.size+4)) (by kernel_rfl) ?_
              generalize w6.drew = wc at HC ⊢
              -- 0: slot 63
              refine wpG_take (preBelow (w.heap.size+4)) (i := 0) (v := ?_) (by kernel_rfl) (some 63) (by kernel_rfl) rfl (by kernel_rfl) (by kernel_rfl) (by kernel_rfl) (fun _ _ _ h => h) (by rfl) (fun w' hw' => ?_) rfl ?_
              rotate_left
              · try (have hxx := (Below.mono HC.out HD6.out.big).trans hw'; have hq8 := cells8 ((hxx.block w.heap.size (by omega)).trans HD6.out.lim); obtain ⟨k0, k1, k2, k3, k4, k5, k6, k7⟩ := hq8; have hqc := HCL.out _ (HD6.out.bel.trans (hxx.mono (by omega))); obtain ⟨c0, c1, c2, c3, c4, c5, c6, c7⟩ := hqc; clear hxx)
                go_simp
                with_reducible rfl
              simp only [Act.put, List.setIfInBounds_toArray, List.set_cons_zero, List.set_cons_succ]
              -- 1: slot 64
              refine wpG_take (preBelow (w.heap.size+4)) (i := 1) (v := ?_) (by kernel_rfl) (some 64) (by kernel_rfl) rfl (by kernel_rfl) (by kernel_rfl) (by kernel_rfl) (fun _ _ _ h => h) (by rfl) (fun w' hw' => ?_) rfl ?_
              rotate_left
              · try (have hxx := (Below.mono HC.out HD6.out.big).trans hw'; have hq8 := cells8 ((hxx.block w.heap.size (by omega)).trans HD6.out.lim); obtain ⟨k0, k1, k2, k3, k4, k5, k6, k7⟩ := hq8; have hqc := HCL.out _ (HD6.out.bel.trans (hxx.mono (by omega))); obtain ⟨c0, c1, c2, c3, c4, c5, c6, c7⟩ := hqc; clear hxx)
                go_simp
                with_reducible rfl
              simp only [Act.put, List.setIfInBounds_toArray, List.set_cons_zero, List.set_cons_succ]
              -- 2: slot 65
              refine wpG_take (preBelow (w.heap.size+4)) (i := 2) (v := ?_) (by kernel_rfl) (some 65) (by kernel_rfl) rfl (by kernel_rfl) (by kernel_rfl) (by kernel_rfl) (fun _ _ _ h => h) (by rfl) (fun w' hw' => ?_) rfl ?_
              rotate_left
              · try (have hxx := (Below.mono HC.out HD6.out.big).trans hw'; have hq8 := cells8 ((hxx.block w.heap.size (by omega)).trans HD6.out.lim); obtain ⟨k0, k1, k2, k3, k4, k5, k6, k7⟩ := hq8; have hqc := HCL.out _ (HD6.out.bel.trans (hxx.mono (by omega))); obtain ⟨c0, c1, c2, c3, c4, c5, c6, c7⟩ := hqc; clear hxx)
                go_simp
                with_reducible rfl
              simp only [Act.put, List.setIfInBounds_toArray, List.set_cons_zero, List.set_cons_succ]
              -- 3: slot 66
              refine wpG_take (preBelow (w.heap.size+4)) (i := 3) (v := ?_) (by kernel_rfl) (some 66) (by kernel_rfl) rfl (by kernel_rfl) (by kernel_rfl) (by kernel_rfl) (fun _ _ _ h => h) (by rfl) (fun w' hw' => ?_) rfl ?_
              rotate_left
              · try (have hxx := (Below.mono HC.out HD6.out.big).trans hw'; have hq8 := cells8 ((hxx.block w.heap.size (by omega)).trans HD6.out.lim); obtain ⟨k0, k1, k2, k3, k4, k5, k6, k7⟩ := hq8; have hqc := HCL.out _ (HD6.out.bel.trans (hxx.mono (by omega))); obtain ⟨c0, c1, c2, c3, c4, c5, c6, c7⟩ := hqc; clear hxx)
                go_simp
                with_reducible rfl
              simp only [Act.put, List.setIfInBounds_toArray, List.set_cons_zero, List.set_cons_succ]
              -- 4: slot 67
              refine wpG_take (preBelow (w.heap.size+4)) (i := 4) (v := ?_) (by kernel_rfl) (some 67) (by kernel_rfl) rfl (by kernel_rfl) (by kernel_rfl) (by kernel_rfl) (fun _ _ _ h => h) (by rfl) (fun w' hw' => ?_) rfl ?_
              rotate_left
              · try (have hxx := (Below.mono HC.out HD6.out.big).trans hw'; have hq8 := cells8 ((hxx.block w.heap.size (by omega)).trans HD6.out.lim); obtain ⟨k0, k1, k2, k3, k4, k5, k6, k7⟩ := hq8; have hqc := HCL.out _ (HD6.out.bel.trans (hxx.mono (by omega))); obtain ⟨c0, c1, c2, c3, c4, c5, c6, c7⟩ := hqc; clear hxx)
                go_simp
                with_reducible rfl
              simp only [Act.put, List.setIfInBounds_toArray, List.set_cons_zero, List.set_cons_succ]
              -- 5: slot 68
              refine wpG_take (preBelow (w.heap.size+4)) (i := 5) (v := ?_) (by kernel_rfl) (some 68) (by kernel_rfl) rfl (by kernel_rfl) (by kernel_rfl) (by kernel_rfl) (fun _ _ _ h => h) (by rfl) (fun w' hw' => ?_) rfl ?_
              rotate_left
              · try (have hxx := (Below.mono HC.out HD6.out.big).trans hw'; have hq8 := cells8 ((hxx.block w.heap.size (by omega)).trans HD6.out.lim); obtain ⟨k0, k1, k2, k3, k4, k5, k6, k7⟩ := hq8; have hqc := HCL.out _ (HD6.out.bel.trans (hxx.mono (by omega))); obtain ⟨c0, c1, c2, c3, c4, c5, c6, c7⟩ := hqc; clear hxx)
                go_simp
                with_reducible rfl
              simp only [Act.put, List.setIfInBounds_toArray, List.set_cons_zero, List.set_cons_succ]
              -- 6: slot 69
              refine wpG_take (preBelow (w.heap.size+4)) (i := 6) (v := ?_) (by kernel_rfl) (some 69) (by kernel_rfl) rfl (by kernel_rfl) (by kernel_rfl) (by kernel_rfl) (fun _ _ _ h => h) (by rfl) (fun w' hw' => ?_) rfl ?_
              rotate_left
              · try (have hxx := (Below.mono HC.out HD6.out.big).trans hw'; have hq8 := cells8 ((hxx.block w.heap.size (by omega)).trans HD6.out.lim); obtain ⟨k0, k1, k2, k3, k4, k5, k6, k7⟩ := hq8; have hqc := HCL.out _ (HD6.out.bel.trans (hxx.mono (by omega))); obtain ⟨c0, c1, c2, c3, c4, c5, c6, c7⟩ := hqc; clear hxx)
                go_simp
                with_reducible rfl
              simp only [Act.put, List.setIfInBounds_toArray, List.set_cons_zero, List.set_cons_succ]
              -- 7: slot 70
              refine wpG_take (preBelow (w.heap.size+4)) (i := 7) (v := ?_) (by kernel_rfl) (some 70) (by kernel_rfl) rfl (by kernel_rfl) (by kernel_rfl) (by kernel_rfl) (fun _ _ _ h => h) (by rfl) (fun w' hw' => ?_) rfl ?_
              rotate_left
              · try (have hxx := (Below.mono HC.out HD6.out.big).trans hw'; have hq8 := cells8 ((hxx.block w.heap.size (by omega)).trans HD6.out.lim); obtain ⟨k0, k1, k2, k3, k4, k5, k6, k7⟩ := hq8; have hqc := HCL.out _ (HD6.out.bel.trans (hxx.mono (by omega))); obtain ⟨c0, c1, c2, c3, c4, c5, c6, c7⟩ := hqc; clear hxx)
                go_simp
                with_reducible rfl
              simp only [Act.put, List.setIfInBounds_toArray, List.set_cons_zero, List.set_cons_succ]
              -- 8: slot 71
              refine wpG_take (preBelow (w.heap.size+4)) (i := 8) (v := ?_) (by kernel_rfl) (some 71) (by kernel_rfl) rfl (by kernel_rfl) (by kernel_rfl) (by kernel_rfl) (fun _ _ _ h => h) (by rfl) (fun w' hw' => ?_) rfl ?_
              rotate_left
              · try (have hxx := (Below.mono HC.out HD6.out.big).trans hw'; have hq8 := cells8 ((hxx.block w.heap.size (by omega)).trans HD6.out.lim); obtain ⟨k0, k1, k2, k3, k4, k5, k6, k7⟩ := hq8; have hqc := HCL.out _ (HD6.out.bel.trans (hxx.mono (by omega))); obtain ⟨c0, c1, c2, c3, c4, c5, c6, c7⟩ := hqc; clear hxx)
                go_simp
                with_reducible rfl
              simp only [Act.put, List.setIfInBounds_toArray, List.set_cons_zero, List.set_cons_succ]
              -- 9: slot 72
              refine wpG_take (preBelow (w.heap.size+4)) (i := 9) (v := ?_) (by kernel_rfl) (some 72) (by kernel_rfl) rfl (by kernel_rfl) (by kernel_rfl) (by kernel_rfl) (fun _ _ _ h => h) (by rfl) (fun w' hw' => ?_) rfl ?_
              rotate_left
              · try (have hxx := (Below.mono HC.out HD6.out.big).trans hw'; have hq8 := cells8 ((hxx.block w.heap.size (by omega)).trans HD6.out.lim); obtain ⟨k0, k1, k2, k3, k4, k5, k6, k7⟩ := hq8; have hqc := HCL.out _ (HD6.out.bel.trans (hxx.mono (by omega))); obtain ⟨c0, c1, c2, c3, c4, c5, c6, c7⟩ := hqc; clear hxx)
                go_simp
                with_reducible rfl
              simp only [Act.put, List.setIfInBounds_toArray, List.set_cons_zero, List.set_cons_succ]
              -- 10: slot 73
              refine wpG_take (preBelow (w.heap.size+4)) (i := 10) (v := ?_) (by kernel_rfl) (some 73) (by kernel_rfl) rfl (by kernel_rfl) (by kernel_rfl) (by kernel_rfl) (fun _ _ _ h => h) (by rfl) (fun w' hw' => ?_) rfl ?_
              rotate_left
              · try (have hxx := (Below.mono HC.out HD6.out.big).trans hw'; have hq8 := cells8 ((hxx.block w.heap.size (by omega)).trans HD6.out.lim); obtain ⟨k0, k1, k2, k3, k4, k5, k6, k7⟩ := hq8; have hqc := HCL.out _ (HD6.out.bel.trans (hxx.mono (by omega))); obtain ⟨c0, c1, c2, c3, c4, c5, c6, c7⟩ := hqc; clear hxx)
                go_simp
                with_reducible rfl
              simp only [Act.put, List.setIfInBounds_toArray, List.set_cons_zero, List.set_cons_succ]
              -- 11: slot 74
              refine wpG_take (preBelow (w.heap.size+4)) (i := 11) (v := ?_) (by kernel_rfl) (some 74) (by kernel_rfl) rfl (by kernel_rfl) (by kernel_rfl) (by kernel_rfl) (fun _ _ _ h => h) (by rfl) (fun w' hw' => ?_) rfl ?_
              rotate_left
              · try (have hxx := (Below.mono HC.out HD6.out.big).trans hw'; have hq8 := cells8 ((hxx.block w.heap.size (by omega)).trans HD6.out.lim); obtain ⟨k0, k1, k2, k3, k4, k5, k6, k7⟩ := hq8; have hqc := HCL.out _ (HD6.out.bel.trans (hxx.mono (by omega))); obtain ⟨c0, c1, c2, c3, c4, c5, c6, c7⟩ := hqc; clear hxx)
                go_simp
                with_reducible rfl
              simp only [Act.put, List.setIfInBounds_toArray, List.set_cons_zero, List.set_cons_succ]
              -- 12: slot 75
              refine wpG_take (preBelow (w.heap.size+4)) (i := 12) (v := ?_) (by kernel_rfl) (some 75) (by kernel_rfl) rfl (by kernel_rfl) (by kernel_rfl) (by kernel_rfl) (fun _ _ _ h => h) (by rfl) (fun w' hw' => ?_) rfl ?_
              rotate_left
              · try (have hxx := (Below.mono HC.out HD6.out.big).trans hw'; have hq8 := cells8 ((hxx.block w.heap.size (by omega)).trans HD6.out.lim); obtain ⟨k0, k1, k2, k3, k4, k5, k6, k7⟩ := hq8; have hqc := HCL.out _ (HD6.out.bel.trans (hxx.mono (by omega))); obtain ⟨c0, c1, c2, c3, c4, c5, c6, c7⟩ := hqc; clear hxx)
                go_simp
                with_reducible rfl
              simp only [Act.put, List.setIfInBounds_toArray, List.set_cons_zero, List.set_cons_succ]
              -- 13: slot 76
              refine wpG_take (preBelow (w.heap.size+4)) (i := 13) (v := ?_) (by kernel_rfl) (some 76) (by kernel_rfl) rfl (by kernel_rfl) (by kernel_rfl) (by kernel_rfl) (fun _ _ _ h => h) (by rfl) (fun w' hw' => ?_) rfl ?_
              rotate_left
              · try (have hxx := (Below.mono HC.out HD6.out.big).trans hw'; have hq8 := cells8 ((hxx.block w.heap.size (by omega)).trans HD6.out.lim); obtain ⟨k0, k1, k2, k3, k4, k5, k6, k7⟩ := hq8; have hqc := HCL.out _ (HD6.out.bel.trans (hxx.mono (by omega))); obtain ⟨c0, c1, c2, c3, c4, c5, c6, c7⟩ := hqc; clear hxx)
                go_simp
                with_reducible rfl
              simp only [Act.put, List.setIfInBounds_toArray, List.set_cons_zero, List.set_cons_succ]
              refine wpG_one (i := 14) rfl (by kernel_rfl) (by rfl) ?_
              go_simp
              have hb : Below wc.heap.size wc (wc.alloc (.cells #[.int .u8 (a0.toNat : Int), .int .u8 (a1.toNat : Int), .int .u8 (a2.toNat : Int), .int .u8 (a3.toNat : Int), .int .u8 (a4.toNat : Int), .int .u8 (a5.toNat : Int), .int .i64 x, .int .i64 y] 72)) := (Below.refl _ _).alloc (Nat.le_refl _) _
              have hbig : w.heap.size + 4 ≤ wc.heap.size := Nat.le_trans HD6.out.big (Below.size HC.out)
              refine ⟨hb.mono hbig, ?_⟩
              have HRD : Hid (Rd (wc.alloc (.cells #[.int .u8 (a0.toNat : Int), .int .u8 (a1.toNat : Int), .int .u8 (a2.toNat : Int), .int .u8 (a3.toNat : Int), .int .u8 (a4.toNat : Int), .int .u8 (a5.toNat : Int), .int .i64 x, .int .i64 y] 72)) 8 (.slice (some ⟨wc.heap.size, 0, none⟩) 1 1) 1 (entC ([a0, a1, a2, a3, a4, a5], ⟨x, y⟩))) := rd_new wc _ 72 1 8 rfl (by decide)
              have HOW : Hid ((wc.alloc (.cells #[.int .u8 (a0.toNat : Int), .int .u8 (a1.toNat : Int), .int .u8 (a2.toNat : Int), .int .u8 (a3.toNat : Int), .int .u8 (a4.toNat : Int), .int .u8 (a5.toNat : Int), .int .i64 x, .int .i64 y] 72)).ownsRow (w.heap.size + 4) 72 8 u8 (keptTo S t i).length (flatE (keptTo S t i))) := ownsRow_below (ownsRow_below HD6.out.own HC.out) hb
              have HC' : Hid (Gr w6 (wc.alloc (.cells #[.int .u8 (a0.toNat : Int), .int .u8 (a1.toNat : Int), .int .u8 (a2.toNat : Int), .int .u8 (a3.toNat : Int), .int .u8 (a4.toNat : Int), .int .u8 (a5.toNat : Int), .int .i64 x, .int .i64 y] 72))) := Gr.trans HC.out hb
              clear HC hb hbig
              generalize wc.alloc (.cells #[.int .u8 (a0.toNat : Int), .int .u8 (a1.toNat : Int), .int .u8 (a2.toNat : Int), .int .u8 (a3.toNat : Int), .int .u8 (a4.toNat : Int), .int .u8 (a5.toNat : Int), .int .i64 x, .int .i64 y] 72) = wn at HC' HRD HOW ⊢
              have HC := HC'
              clear HC'
              try simp only [Act.put, List.setIfInBounds_toArray, List.set_cons_zero, List.set_cons_succ]
              refine wpG_one (i := 15) rfl (by kernel_rfl) (by rfl) ?_
              refine wp_append_gr _ (some 78) (.tmp 63) (.tmp 77) 40 rfl (w.heap.size + 4) 72 i0 _ 8 24 Try.underlying40 hi hz0 hz1 hz2 rfl (by decide) _ _ _ rfl HOW.out _ 1 _ rfl HRD.out ?o1 ?o2 (by decide) ?o3 rfl ?_
              case o1 => rw [← flatE_one]; exact flatE_cell _
              case o2 => have := HLE.out; omega
              case o3 => exact Nat.le_trans HD6.out.big (Below.size HC.out)
              intro v' w7 ho hg
              have hb7 : Below (w.heap.size + 4) wn w7 := grown_below HOW.out (Nat.le_trans HD6.out.big (Below.size HC.out)) hg
              refine ⟨hb7, ?_⟩
              have HBB : Hid (Below (w.heap.size + 4) w6 w7) := (Below.mono HC.out HD6.out.big).trans hb7
              have HO7 : Hid (w7.ownsRow (w.heap.size + 4) 72 8 v' (keptTo S t (i + 1)).length (flatE (keptTo S t (i + 1)))) := by
                show World.ownsRow _ _ _ _ _ _ _
                rw [HNX.out, List.length_append, flatE_append, flatE_one]
                exact ho
              clear ho hg hb7
              try simp only [Act.put, List.setIfInBounds_toArray, List.set_cons_zero, List.set_cons_succ]
              -- 16: slot 8
              refine wpG_take (preBelow (w.heap.size+4)) (i := 16) (v := ?_) (by kernel_rfl) (some 8) (by kernel_rfl) rfl (by kernel_rfl) (by kernel_rfl) (by kernel_rfl) (fun _ _ _ h => h) (by rfl) (fun w' hw' => ?_) rfl ?_
              rotate_left
              · try (have hxx := (Below.mono HC.out HD6.out.big).trans hw'; have hq8 := cells8 ((hxx.block w.heap.size (by omega)).trans HD6.out.lim); obtain ⟨k0, k1, k2, k3, k4, k5, k6, k7⟩ := hq8; have hqc := HCL.out _ (HD6.out.bel.trans (hxx.mono (by omega))); obtain ⟨c0, c1, c2, c3, c4, c5, c6, c7⟩ := hqc; clear hxx)
                go_simp
                with_reducible rfl
              simp only [Act.put, List.setIfInBounds_toArray, List.set_cons_zero, List.set_cons_succ]
              refine wpG_done (by kernel_rfl) ?_ _
              have HD7 : Hid (Below w.heap.size w w7 ∧ w7.heap[w.heap.size + 3]? = some (.cells #[.int .i64 ((find (keptTo S t i) m).getD ⟨S.own.m, t⟩).k, .int .i64 ((find (keptTo S t i) m).getD ⟨S.own.m, t⟩).t] 25 (0, 0)) ∧ w7.heap[w.heap.size]? = some (.cells #[.int .i64 S.all.e, .int .i64 S.all.m, .int .i64 S.own.e, .int .i64 S.own.m, .int .i64 S.b.k, .int .i64 S.b.t, .slice (some ⟨b, o, none⟩) n C, .int .i64 t] 42 (0, 0)) ∧ w7.heap[w.heap.size + 1]? = some (.cells #[v0, v1, v2, v3, v4, v5] 49 (0, 0)) ∧ w7.heap[w.heap.size + 2]? = some (.cells #[.int .i64 0, .int .i64 0, .int .i64 0, .int .i64 0, .int .i64 0, .int .i64 0, .slice none 0 0, .int .i64 0] 42 (0, 0)) ∧ w.heap.size + 4 ≤ w7.heap.size) :=
                ⟨HD6.out.bel.trans (HBB.out.mono (by omega)), (HBB.out.block _ (by omega)).trans HD6.out.mine, (HBB.out.block _ (by omega)).trans HD6.out.lim, (HBB.out.block _ (by omega)).trans HD6.out.box, (HBB.out.block _ (by omega)).trans HD6.out.res, Nat.le_trans HD6.out.big HBB.out.size⟩
              clear HC HRD HOW HQ6 HD6 HBB
              by_cases he : [a0, a1, a2, a3, a4, a5] = m
              · have HEQ : ∀ w, (binOp .eql 49 (.agg #[.int .u8 (a0.toNat : Int), .int .u8 (a1.toNat : Int), .int .u8 (a2.toNat : Int), .int .u8 (a3.toNat : Int), .int .u8 (a4.toNat : Int), .int .u8 (a5.toNat : Int)]) (.agg #[v0, v1, v2, v3, v4, v5])).run Try.prog w = .ok (.bool true) w := fun w => by
                  rw [← HMV.out]
                  have := eql_mac (m := [a0, a1, a2, a3, a4, a5]) (m' := m) rfl H6.out w
                  rw [decide_eq_true he] at this
                  exact this
                have HEM := Lib.hid he
                clear he
                go_upto_region 12 with fail
                have HC : Hid (Gr w7 w7.drew) := Gr.drew w7
                refine wp_region_G 8 Gr (by kernel_rfl) ?_
                generalize w7.drew = wc at HC ⊢
                -- 0: slot 79
                refine wpG_take preGr (i := 0) (v := ?_) (by kernel_rfl) (some 79) (by kernel_rfl) rfl (by kernel_rfl) (by kernel_rfl) (by kernel_rfl) (fun _ _ _ h => h) (by rfl) (fun w' hw' => ?_) rfl ?_
                rotate_left
                · try (have hxx := Gr.trans HC.out hw'; have hq8 := cells8 (heap_below HD7.out.2.2.1 hxx); obtain ⟨k0, k1, k2, k3, k4, k5, k6, k7⟩ := hq8; have hq6 := cells6 (heap_below HD7.out.2.2.2.1 hxx); obtain ⟨m0, m1, m2, m3, m4, m5⟩ := hq6; have hqc := HCL.out _ (HD7.out.1.trans (Below.mono hxx HD7.out.1.size)); obtain ⟨c0, c1, c2, c3, c4, c5, c6, c7⟩ := hqc; clear hxx)
                  go_simp
                  with_reducible rfl
                simp only [Act.put, List.setIfInBounds_toArray, List.set_cons_zero, List.set_cons_succ]
                -- 1: slot 80
                refine wpG_take preGr (i := 1) (v := ?_) (by kernel_rfl) (some 80) (by kernel_rfl) rfl (by kernel_rfl) (by kernel_rfl) (by kernel_rfl) (fun _ _ _ h => h) (by rfl) (fun w' hw' => ?_) rfl ?_
                rotate_left
                · try (have hxx := Gr.trans HC.out hw'; have hq8 := cells8 (heap_below HD7.out.2.2.1 hxx); obtain ⟨k0, k1, k2, k3, k4, k5, k6, k7⟩ := hq8; have hq6 := cells6 (heap_below HD7.out.2.2.2.1 hxx); obtain ⟨m0, m1, m2, m3, m4, m5⟩ := hq6; have hqc := HCL.out _ (HD7.out.1.trans (Below.mono hxx HD7.out.1.size)); obtain ⟨c0, c1, c2, c3, c4, c5, c6, c7⟩ := hqc; clear hxx)
                  go_simp
                  with_reducible rfl
                simp only [Act.put, List.setIfInBounds_toArray, List.set_cons_zero, List.set_cons_succ]
                -- 2: slot 81
                refine wpG_take preGr (i := 2) (v := ?_) (by kernel_rfl) (some 81) (by kernel_rfl) rfl (by kernel_rfl) (by kernel_rfl) (by kernel_rfl) (fun _ _ _ h => h) (by rfl) (fun w' hw' => ?_) rfl ?_
                rotate_left
                · try (have hxx := Gr.trans HC.out hw'; have hq8 := cells8 (heap_below HD7.out.2.2.1 hxx); obtain ⟨k0, k1, k2, k3, k4, k5, k6, k7⟩ := hq8; have hq6 := cells6 (heap_below HD7.out.2.2.2.1 hxx); obtain ⟨m0, m1, m2, m3, m4, m5⟩ := hq6; have hqc := HCL.out _ (HD7.out.1.trans (Below.mono hxx HD7.out.1.size)); obtain ⟨c0, c1, c2, c3, c4, c5, c6, c7⟩ := hqc; clear hxx)
                  go_simp
                  with_reducible rfl
                simp only [Act.put, List.setIfInBounds_toArray, List.set_cons_zero, List.set_cons_succ]
                -- 3: slot 82
                refine wpG_take preGr (i := 3) (v := ?_) (by kernel_rfl) (some 82) (by kernel_rfl) rfl (by kernel_rfl) (by kernel_rfl) (by kernel_rfl) (fun _ _ _ h => h) (by rfl) (fun w' hw' => ?_) rfl ?_
                rotate_left
                · try (have hxx := Gr.trans HC.out hw'; have hq8 := cells8 (heap_below HD7.out.2.2.1 hxx); obtain ⟨k0, k1, k2, k3, k4, k5, k6, k7⟩ := hq8; have hq6 := cells6 (heap_below HD7.out.2.2.2.1 hxx); obtain ⟨m0, m1, m2, m3, m4, m5⟩ := hq6; have hqc := HCL.out _ (HD7.out.1.trans (Below.mono hxx HD7.out.1.size)); obtain ⟨c0, c1, c2, c3, c4, c5, c6, c7⟩ := hqc; clear hxx)
                  go_simp
                  with_reducible rfl
                simp only [Act.put, List.setIfInBounds_toArray, List.set_cons_zero, List.set_cons_succ]
                -- 4: slot 83
                refine wpG_take preGr (i := 4) (v := ?_) (by kernel_rfl) (some 83) (by kernel_rfl) rfl (by kernel_rfl) (by kernel_rfl) (by kernel_rfl) (fun _ _ _ h => h) (by rfl) (fun w' hw' => ?_) rfl ?_
                rotate_left
                · try (have hxx := Gr.trans HC.out hw'; have hq8 := cells8 (heap_below HD7.out.2.2.1 hxx); obtain ⟨k0, k1, k2, k3, k4, k5, k6, k7⟩ := hq8; have hq6 := cells6 (heap_below HD7.out.2.2.2.1 hxx); obtain ⟨m0, m1, m2, m3, m4, m5⟩ := hq6; have hqc := HCL.out _ (HD7.out.1.trans (Below.mono hxx HD7.out.1.size)); obtain ⟨c0, c1, c2, c3, c4, c5, c6, c7⟩ := hqc; clear hxx)
                  go_simp
                  with_reducible rfl
                simp only [Act.put, List.setIfInBounds_toArray, List.set_cons_zero, List.set_cons_succ]
                -- 5: slot 84
                refine wpG_take preGr (i := 5) (v := ?_) (by kernel_rfl) (some 84) (by kernel_rfl) rfl (by kernel_rfl) (by kernel_rfl) (by kernel_rfl) (fun _ _ _ h => h) (by rfl) (fun w' hw' => ?_) rfl ?_
                rotate_left
                · try (have hxx := Gr.trans HC.out hw'; have hq8 := cells8 (heap_below HD7.out.2.2.1 hxx); obtain ⟨k0, k1, k2, k3, k4, k5, k6, k7⟩ := hq8; have hq6 := cells6 (heap_below HD7.out.2.2.2.1 hxx); obtain ⟨m0, m1, m2, m3, m4, m5⟩ := hq6; have hqc := HCL.out _ (HD7.out.1.trans (Below.mono hxx HD7.out.1.size)); obtain ⟨c0, c1, c2, c3, c4, c5, c6, c7⟩ := hqc; clear hxx)
                  go_simp
                  with_reducible rfl
                simp only [Act.put, List.setIfInBounds_toArray, List.set_cons_zero, List.set_cons_succ]
                -- 6: slot 85
                refine wpG_take preGr (i := 6) (v := ?_) (by kernel_rfl) (some 85) (by kernel_rfl) rfl (by kernel_rfl) (by kernel_rfl) (by kernel_rfl) (fun _ _ _ h => h) (by rfl) (fun w' hw' => ?_) rfl ?_
                rotate_left
                · try (have hxx := Gr.trans HC.out hw'; have hq8 := cells8 (heap_below HD7.out.2.2.1 hxx); obtain ⟨k0, k1, k2, k3, k4, k5, k6, k7⟩ := hq8; have hq6 := cells6 (heap_below HD7.out.2.2.2.1 hxx); obtain ⟨m0, m1, m2, m3, m4, m5⟩ := hq6; have hqc := HCL.out _ (HD7.out.1.trans (Below.mono hxx HD7.out.1.size)); obtain ⟨c0, c1, c2, c3, c4, c5, c6, c7⟩ := hqc; clear hxx)
                  go_simp
                  with_reducible rfl
                simp only [Act.put, List.setIfInBounds_toArray, List.set_cons_zero, List.set_cons_succ]
                -- 7: slot 86
                refine wpG_take preGr (i := 7) (v := ?_) (by kernel_rfl) (some 86) (by kernel_rfl) rfl (by kernel_rfl) (by kernel_rfl) (by kernel_rfl) (fun _ _ _ h => h) (by rfl) (fun w' hw' => ?_) rfl ?_
                rotate_left
                · try (have hxx := Gr.trans HC.out hw'; have hq8 := cells8 (heap_below HD7.out.2.2.1 hxx); obtain ⟨k0, k1, k2, k3, k4, k5, k6, k7⟩ := hq8; have hq6 := cells6 (heap_below HD7.out.2.2.2.1 hxx); obtain ⟨m0, m1, m2, m3, m4, m5⟩ := hq6; have hqc := HCL.out _ (HD7.out.1.trans (Below.mono hxx HD7.out.1.size)); obtain ⟨c0, c1, c2, c3, c4, c5, c6, c7⟩ := hqc; clear hxx)
                  go_simp
                  with_reducible rfl
                simp only [Act.put, List.setIfInBounds_toArray, List.set_cons_zero, List.set_cons_succ]
                refine wpG_done (by kernel_rfl) ?_ _
                clear HEQ
                obtain ⟨k0, k1, k2, k3, k4, k5, k6, k7⟩ := cells8 (heap_below HD7.out.2.2.1 HC.out)
                obtain ⟨c0, c1, c2, c3, c4, c5, c6, c7⟩ := HCL.out wc (HD7.out.1.trans (Below.mono HC.out HD7.out.1.size))
                have hm9 := heap_below HD7.out.2.1 HC.out
                have HM9 := Lib.hid hm9
                obtain ⟨q0, q1⟩ := cells2 hm9
                have f0 := frozen_of_row _ _ 0 _ _ hm9
                have f1 := frozen_of_row _ _ 1 _ _ hm9
                have HOC : Hid (wc.ownsRow (w.heap.size + 4) 72 8 v' (keptTo S t (i + 1)).length (flatE (keptTo S t (i + 1)))) := ownsRow_below HO7.out HC.out
                clear hm9
                go_wp2_with fail
                go_roundw
                case rel =>
                  have hfind : find (keptTo S t (i + 1)) m = some ⟨x, y⟩ := by rw [HNX.out]; exact find_snoc_new HNEW.out HEM.out
                  have hdj : DJ S t m v0 v1 v2 v3 v4 v5 (some ⟨b, o, none⟩) n C w ((wc.setCell ⟨w.heap.size + 3, 0, none⟩ (.int .i64 x)).setCell ⟨w.heap.size + 3, 1, none⟩ (.int .i64 y)) v' (keptTo S t (i + 1)) := by
                    refine ⟨ownsRow_setCell_below (ownsRow_setCell_below HOC.out (by simp) _) (by simp) _, ?_, ?_, ?_, ?_, ((HD7.out.1.trans (Below.mono HC.out HD7.out.1.size)).setCell (by simp) _).setCell (by simp) _, ?_⟩
                    · rw [hfind]; exact set2 HM9.out _ _
                    · rw [Below.heap_setCell _ _ _ _ (by simp), Below.heap_setCell _ _ _ _ (by simp)]; exact heap_below HD7.out.2.2.1 HC.out
                    · rw [Below.heap_setCell _ _ _ _ (by simp), Below.heap_setCell _ _ _ _ (by simp)]; exact heap_below HD7.out.2.2.2.1 HC.out
                    · rw [Below.heap_setCell _ _ _ _ (by simp), Below.heap_setCell _ _ _ _ (by simp)]; exact heap_below HD7.out.2.2.2.2.1 HC.out
                    · have h1 := HD7.out.2.2.2.2.2
                      have h2 := Below.size HC.out
                      simp [World.setCell]
                      omega
                  first
                    | exact ⟨i + 1, by omega, by go_num, by rw [hfind]; rfl, hdj⟩
                    | ((repeat apply Exists.intro); exact ⟨⟨i + 1, by omega, by go_num, by rw [hfind]; rfl, hdj⟩, rfl⟩)
                case measure => simp [intOf]; omega
              · have HEQ : ∀ w, (binOp .eql 49 (.agg #[.int .u8 (a0.toNat : Int), .int .u8 (a1.toNat : Int), .int .u8 (a2.toNat : Int), .int .u8 (a3.toNat : Int), .int .u8 (a4.toNat : Int), .int .u8 (a5.toNat : Int)]) (.agg #[v0, v1, v2, v3, v4, v5])).run Try.prog w = .ok (.bool false) w := fun w => by
                  rw [← HMV.out]
                  have := eql_mac (m := [a0, a1, a2, a3, a4, a5]) (m' := m) rfl H6.out w
                  rw [decide_eq_false he] at this
                  exact this
                have HEM := Lib.hid he
                clear he
                go_upto_region 12 with fail
                have HC : Hid (Gr w7 w7.drew) := Gr.drew w7
                refine wp_region_G 8 Gr (by kernel_rfl) ?_
                generalize w7.drew = wc at HC ⊢
                -- 0: slot 79
                refine wpG_take preGr (i := 0) (v := ?_) (by kernel_rfl) (some 79) (by kernel_rfl) rfl (by kernel_rfl) (by kernel_rfl) (by kernel_rfl) (fun _ _ _ h => h) (by rfl) (fun w' hw' => ?_) rfl ?_
                rotate_left
                · try (have hxx := Gr.trans HC.out hw'; have hq8 := cells8 (heap_below HD7.out.2.2.1 hxx); obtain ⟨k0, k1, k2, k3, k4, k5, k6, k7⟩ := hq8; have hq6 := cells6 (heap_below HD7.out.2.2.2.1 hxx); obtain ⟨m0, m1, m2, m3, m4, m5⟩ := hq6; have hqc := HCL.out _ (HD7.out.1.trans (Below.mono hxx HD7.out.1.size)); obtain ⟨c0, c1, c2, c3, c4, c5, c6, c7⟩ := hqc; clear hxx)
                  go_simp
                  with_reducible rfl
                simp only [Act.put, List.setIfInBounds_toArray, List.set_cons_zero, List.set_cons_succ]
                -- 1: slot 80
                refine wpG_take preGr (i := 1) (v := ?_) (by kernel_rfl) (some 80) (by kernel_rfl) rfl (by kernel_rfl) (by kernel_rfl) (by kernel_rfl) (fun _ _ _ h => h) (by rfl) (fun w' hw' => ?_) rfl ?_
                rotate_left
                · try (have hxx := Gr.trans HC.out hw'; have hq8 := cells8 (heap_below HD7.out.2.2.1 hxx); obtain ⟨k0, k1, k2, k3, k4, k5, k6, k7⟩ := hq8; have hq6 := cells6 (heap_below HD7.out.2.2.2.1 hxx); obtain ⟨m0, m1, m2, m3, m4, m5⟩ := hq6; have hqc := HCL.out _ (HD7.out.1.trans (Below.mono hxx HD7.out.1.size)); obtain ⟨c0, c1, c2, c3, c4, c5, c6, c7⟩ := hqc; clear hxx)
                  go_simp
                  with_reducible rfl
                simp only [Act.put, List.setIfInBounds_toArray, List.set_cons_zero, List.set_cons_succ]
                -- 2: slot 81
                refine wpG_take preGr (i := 2) (v := ?_) (by kernel_rfl) (some 81) (by kernel_rfl) rfl (by kernel_rfl) (by kernel_rfl) (by kernel_rfl) (fun _ _ _ h => h) (by rfl) (fun w' hw' => ?_) rfl ?_
                rotate_left
                · try (have hxx := Gr.trans HC.out hw'; have hq8 := cells8 (heap_below HD7.out.2.2.1 hxx); obtain ⟨k0, k1, k2, k3, k4, k5, k6, k7⟩ := hq8; have hq6 := cells6 (heap_below HD7.out.2.2.2.1 hxx); obtain ⟨m0, m1, m2, m3, m4, m5⟩ := hq6; have hqc := HCL.out _ (HD7.out.1.trans (Below.mono hxx HD7.out.1.size)); obtain ⟨c0, c1, c2, c3, c4, c5, c6, c7⟩ := hqc; clear hxx)
                  go_simp
                  with_reducible rfl
                simp only [Act.put, List.setIfInBounds_toArray, List.set_cons_zero, List.set_cons_succ]
                -- 3: slot 82
                refine wpG_take preGr (i := 3) (v := ?_) (by kernel_rfl) (some 82) (by kernel_rfl) rfl (by kernel_rfl) (by kernel_rfl) (by kernel_rfl) (fun _ _ _ h => h) (by rfl) (fun w' hw' => ?_) rfl ?_
                rotate_left
                · try (have hxx := Gr.trans HC.out hw'; have hq8 := cells8 (heap_below HD7.out.2.2.1 hxx); obtain ⟨k0, k1, k2, k3, k4, k5, k6, k7⟩ := hq8; have hq6 := cells6 (heap_below HD7.out.2.2.2.1 hxx); obtain ⟨m0, m1, m2, m3, m4, m5⟩ := hq6; have hqc := HCL.out _ (HD7.out.1.trans (Below.mono hxx HD7.out.1.size)); obtain ⟨c0, c1, c2, c3, c4, c5, c6, c7⟩ := hqc; clear hxx)
                  go_simp
                  with_reducible rfl
                simp only [Act.put, List.setIfInBounds_toArray, List.set_cons_zero, List.set_cons_succ]
                -- 4: slot 83
                refine wpG_take preGr (i := 4) (v := ?_) (by kernel_rfl) (some 83) (by kernel_rfl) rfl (by kernel_rfl) (by kernel_rfl) (by kernel_rfl) (fun _ _ _ h => h) (by rfl) (fun w' hw' => ?_) rfl ?_
                rotate_left
                · try (have hxx := Gr.trans HC.out hw'; have hq8 := cells8 (heap_below HD7.out.2.2.1 hxx); obtain ⟨k0, k1, k2, k3, k4, k5, k6, k7⟩ := hq8; have hq6 := cells6 (heap_below HD7.out.2.2.2.1 hxx); obtain ⟨m0, m1, m2, m3, m4, m5⟩ := hq6; have hqc := HCL.out _ (HD7.out.1.trans (Below.mono hxx HD7.out.1.size)); obtain ⟨c0, c1, c2, c3, c4, c5, c6, c7⟩ := hqc; clear hxx)
                  go_simp
                  with_reducible rfl
                simp only [Act.put, List.setIfInBounds_toArray, List.set_cons_zero, List.set_cons_succ]
                -- 5: slot 84
                refine wpG_take preGr (i := 5) (v := ?_) (by kernel_rfl) (some 84) (by kernel_rfl) rfl (by kernel_rfl) (by kernel_rfl) (by kernel_rfl) (fun _ _ _ h => h) (by rfl) (fun w' hw' => ?_) rfl ?_
                rotate_left
                · try (have hxx := Gr.trans HC.out hw'; have hq8 := cells8 (heap_below HD7.out.2.2.1 hxx); obtain ⟨k0, k1, k2, k3, k4, k5, k6, k7⟩ := hq8; have hq6 := cells6 (heap_below HD7.out.2.2.2.1 hxx); obtain ⟨m0, m1, m2, m3, m4, m5⟩ := hq6; have hqc := HCL.out _ (HD7.out.1.trans (Below.mono hxx HD7.out.1.size)); obtain ⟨c0, c1, c2, c3, c4, c5, c6, c7⟩ := hqc; clear hxx)
                  go_simp
                  with_reducible rfl
                simp only [Act.put, List.setIfInBounds_toArray, List.set_cons_zero, List.set_cons_succ]
                -- 6: slot 85
                refine wpG_take preGr (i := 6) (v := ?_) (by kernel_rfl) (some 85) (by kernel_rfl) rfl (by kernel_rfl) (by kernel_rfl) (by kernel_rfl) (fun _ _ _ h => h) (by rfl) (fun w' hw' => ?_) rfl ?_
                rotate_left
                · try (have hxx := Gr.trans HC.out hw'; have hq8 := cells8 (heap_below HD7.out.2.2.1 hxx); obtain ⟨k0, k1, k2, k3, k4, k5, k6, k7⟩ := hq8; have hq6 := cells6 (heap_below HD7.out.2.2.2.1 hxx); obtain ⟨m0, m1, m2, m3, m4, m5⟩ := hq6; have hqc := HCL.out _ (HD7.out.1.trans (Below.mono hxx HD7.out.1.size)); obtain ⟨c0, c1, c2, c3, c4, c5, c6, c7⟩ := hqc; clear hxx)
                  go_simp
                  with_reducible rfl
                simp only [Act.put, List.setIfInBounds_toArray, List.set_cons_zero, List.set_cons_succ]
                -- 7: slot 86
                refine wpG_take preGr (i := 7) (v := ?_) (by kernel_rfl) (some 86) (by kernel_rfl) rfl (by kernel_rfl) (by kernel_rfl) (by kernel_rfl) (fun _ _ _ h => h) (by rfl) (fun w' hw' => ?_) rfl ?_
                rotate_left
                · try (have hxx := Gr.trans HC.out hw'; have hq8 := cells8 (heap_below HD7.out.2.2.1 hxx); obtain ⟨k0, k1, k2, k3, k4, k5, k6, k7⟩ := hq8; have hq6 := cells6 (heap_below HD7.out.2.2.2.1 hxx); obtain ⟨m0, m1, m2, m3, m4, m5⟩ := hq6; have hqc := HCL.out _ (HD7.out.1.trans (Below.mono hxx HD7.out.1.size)); obtain ⟨c0, c1, c2, c3, c4, c5, c6, c7⟩ := hqc; clear hxx)
                  go_simp
                  with_reducible rfl
                simp only [Act.put, List.setIfInBounds_toArray, List.set_cons_zero, List.set_cons_succ]
                refine wpG_done (by kernel_rfl) ?_ _
                clear HEQ
                go_wp2_with fail
                go_roundw
                case rel =>
                  have hfind : find (keptTo S t (i + 1)) m = find (keptTo S t i) m := by rw [HNX.out]; exact find_snoc_other HEM.out
                  have hdj : DJ S t m v0 v1 v2 v3 v4 v5 (some ⟨b, o, none⟩) n C w wc v' (keptTo S t (i + 1)) :=
                    ⟨ownsRow_below HO7.out HC.out, by rw [hfind]; exact heap_below HD7.out.2.1 HC.out, heap_below HD7.out.2.2.1 HC.out, heap_below HD7.out.2.2.2.1 HC.out, heap_below HD7.out.2.2.2.2.1 HC.out, HD7.out.1.trans (Below.mono HC.out HD7.out.1.size), Nat.le_trans HD7.out.2.2.2.2.2 (Below.size HC.out)⟩
                  first
                    | exact ⟨i + 1, by omega, by go_num, by rw [hfind], hdj⟩
                    | ((repeat apply Exists.intro); exact ⟨⟨i + 1, by omega, by go_num, by rw [hfind], hdj⟩, rfl⟩)
                case measure => simp [intOf]; omega
            · have HNX : Hid (keptTo S t (i + 1) = keptTo S t i) := by
                obtain ⟨h1, h2⟩ := HII.out
                exact keptTo_no (S := S) (t := t) h1 (by rw [h2]; show ¬ tok S.own ⟨x, y⟩ t < S.own.m; rw [← HTT2.out]; exact hk)
              go_wp2_with fail
              go_roundw
              case rel =>
                have hdj : DJ S t m v0 v1 v2 v3 v4 v5 (some ⟨b, o, none⟩) n C w w6 u8 (keptTo S t (i + 1)) := by rw [HNX.out]; exact HD6.out
                first
                  | exact ⟨i + 1, by omega, by go_num, by rw [HNX.out], hdj⟩
                  | ((repeat apply Exists.intro); exact ⟨⟨i + 1, by omega, by go_num, by rw [HNX.out], hdj⟩, rfl⟩)
              case measure => simp [intOf]; omega
          --DEV}
        · obtain rfl : n = i := by omega
          obtain ⟨KK, hKK⟩ : ∃ l, l = kept S t := ⟨_, rfl⟩
          have hka : keptTo S t n = KK := by rw [hKK, ← keptTo_all, HLN.out]
          have HD1 := HDI
          rw [hka] at HD1
          have HKK : Hid (KK = (going S s).es) := by show _ = _; rw [hKK, HTK.out]; rfl
          have HSX : Hid (∀ p ∈ KK, p.1.length = 6) := fun p hp => HER.out.six p (keptTo_sub S t n p (by rw [hka]; exact hp))
          have HKL : Hid (KK.length ≤ 256) := by
            have := keptTo_le S t n
            rw [hka] at this
            exact Nat.le_trans this HFEW.out
          rw [hka]
          obtain ⟨A1, C1, hu8, hc1, hc2⟩ := (own_rd HD1.out.own).shape
          subst hu8
          obtain ⟨R, hR⟩ : ∃ r, r = room S m t := ⟨_, rfl⟩
          obtain ⟨B1, hB1⟩ : ∃ r, r = (find KK m).isSome := ⟨_, rfl⟩
          have hRB : R = (B1 || decide (KK.length < 256)) := by rw [hR, hB1, hKK]; rfl
          have HRB := Lib.hid hRB
          have HMI : Hid ((find KK m).getD ⟨S.own.m, t⟩ = mine S m t) := by show _ = _; rw [hKK]; rfl
          have HRR : Hid (R = room S m (tickOf S s)) := by show _ = _; rw [hR, HTK.out]
          rw [← hB1]
          clear hka hKK hR hB1 hRB hc1 hc2 HDI
          go_upto_region 15 with fail
          clear k0 k1 k2 k3 k4 k5 k6 k7
          obtain ⟨k0, k1, k2, k3, k4, k5, k6, k7⟩ := cells8 HD1.out.lim
          go_upto_region 16 with (with_reducible refine wpList_store_cell rfl 40 (.tmp 94) (.tmp 93) rfl w.heap.size 6 (.slice A1 KK.length C1) rfl rfl 42 [.int .i64 S.all.e, .int .i64 S.all.m, .int .i64 S.own.e, .int .i64 S.own.m, .int .i64 S.b.k, .int .i64 S.b.t, .slice A n C, .int .i64 t] HD1.out.lim ?s1 ?s2 rfl ?_)
          case s1 => kernel_rfl
          case s2 => simp
          intro w8 h8 ho8
          have HL8 : Hid (w8.heap[w.heap.size]? = some (.cells #[.int .i64 S.all.e, .int .i64 S.all.m, .int .i64 S.own.e, .int .i64 S.own.m, .int .i64 S.b.k, .int .i64 S.b.t, .slice A1 KK.length C1, .int .i64 t] 42 (0, 0))) := h8
          have hbig := HD1.out.big
          have HPJ : Hid (PJ S t v0 v1 v2 v3 v4 v5 A1 C1 S.b KK w w8) := ⟨h8, (ho8.heap _ (by omega) (by omega)).trans HD1.out.box, (ho8.heap _ (by omega) (by omega)).trans HD1.out.res, ⟨(own_rd (ownsRow_only HD1.out.own ho8 (by omega))), HSX.out⟩, ho8.below _ _ (Nat.le_refl _) HD1.out.bel⟩
          have HM8 : Hid (w8.heap[w.heap.size + 3]? = some (.cells #[.int .i64 (mine S m t).k, .int .i64 (mine S m t).t] 25 (0, 0))) := by
            have := (ho8.heap _ (by omega) (by omega)).trans HD1.out.mine
            rw [HMI.out] at this
            exact this
          have HNO : Hid (R = false → allow S m s = (going S s, false)) := by
            intro hr
            rw [allow_out HOK.out m s rfl rfl, ← HRR.out, hr]
            rfl
          have HOFFL : Hid (Off w.heap.size A1) := by
            intro ad had
            obtain ⟨_, ⟨h1, _⟩ | ⟨g, cap, cur, h1, h2, _⟩⟩ := HD1.out.own
            · simp only [Value.slice.injEq] at h1; rw [h1.1] at had; cases had
            · simp only [Value.slice.injEq] at h1; rw [h1.1] at had; obtain rfl := Option.some.inj had; show g ≠ _; omega
          have HOFF0 : Hid (Off (w.heap.size + 2) A1) := by
            intro ad had
            obtain ⟨_, ⟨h1, _⟩ | ⟨g, cap, cur, h1, h2, _⟩⟩ := HD1.out.own
            · simp only [Value.slice.injEq] at h1; rw [h1.1] at had; cases had
            · simp only [Value.slice.injEq] at h1; rw [h1.1] at had; obtain rfl := Option.some.inj had; show g ≠ _; omega
          clear h8 ho8 hbig HD1 k0 k1 k2 k3 k4 k5 k6 k7 HMI
          go_upto_region 16 with fail
          have HR16 : Hid (R = true ∧ (!B1 && decide ((256 : Int) ≤ (KK.length : Int))) = false ∨ R = false ∧ B1 = false ∧ 256 ≤ KK.length) := by
            show _ ∨ _
            have h1 := HRB.out
            cases B1 with
            | true => exact .inl ⟨h1, rfl⟩
            | false =>
              by_cases h2 : KK.length < 256
              · refine .inl ⟨by rw [h1, decide_eq_true h2]; rfl, ?_⟩
                rw [decide_eq_false (by omega)]; rfl
              · exact .inr ⟨by rw [h1, decide_eq_false h2]; rfl, rfl, by omega⟩
          go_cut [10, 101] (fun s10 s101 wx => s10 = .bool B1 ∧ s101 = .bool (!R) ∧ wx = w8)
          case first =>
            --DEV{
            have hl256 : KK.length ≤ 256 := HKL.out
            cases B1 with
            | true =>
              have hr : R = true := HRB.out
              subst hr
              go_wp2_with fail
              go_meet
              exact ⟨rfl, rfl, rfl⟩
            | false =>
              rcases HR16.out with ⟨h1, h2⟩ | ⟨h1, _, h2⟩
              · have h3 : ¬ (256 : Int) ≤ (KK.length : Int) := by
                  intro h; rw [decide_eq_true h] at h2; cases h2
                subst h1
                clear h2
                go_wp2_with fail
                go_meet
                exact ⟨rfl, by first | rfl | (simp; omega), rfl⟩
              · have h3 : (256 : Int) ≤ (KK.length : Int) := by omega
                subst h1
                clear h2
                go_wp2_with fail
                go_meet
                exact ⟨rfl, by first | rfl | (simp; omega), rfl⟩
            --DEV}
          case rest =>
            obtain ⟨hs10, hs101, hwc⟩ := hcut
            subst hs10 hs101 hwc
            obtain ⟨w8, hw8⟩ : ∃ x, x = wc := ⟨_, rfl⟩
            subst hw8
            have HOFF : Hid (Off (w.heap.size + 2) A1) := HOFF0
            have HI8 : Hid ((Try.prog.info? 42).map (·.size) = some ([.int .i64 S.all.e, .int .i64 S.all.m, .int .i64 S.own.e, .int .i64 S.own.m, .int .i64 S.b.k, .int .i64 S.b.t, .slice A1 KK.length C1, .int .i64 t] : List Value).length) := by
              show _ = _
              kernel_rfl
            have HON8 : Hid (∀ u ∈ ([.int .i64 S.all.e, .int .i64 S.all.m, .int .i64 S.own.e, .int .i64 S.own.m, .int .i64 S.b.k, .int .i64 S.b.t, .slice A1 KK.length C1, .int .i64 t] : List Value), u.oneCell' = true) := by
              intro u hu; simp only [List.mem_cons, List.not_mem_nil, or_false] at hu; rcases hu with rfl | rfl | rfl | rfl | rfl | rfl | rfl | rfl <;> rfl
            cases R with
            | false =>
              --DEV{
              have HA := Lib.hid (HNO.out rfl)
              obtain ⟨k0, k1, k2, k3, k4, k5, k6, k7⟩ := cells8 HPJ.out.lim
              have HRS : Hid (w8.heap[w.heap.size + 2]? = some (.cells ([.int .i64 0, .int .i64 0, .int .i64 0, .int .i64 0, .int .i64 0, .int .i64 0, .slice none 0 0, .int .i64 0] : List Value).toArray 42 (0, 0))) := HPJ.out.res
              go_wp2_with (with_reducible refine wpList_store_whole rfl 42 (.tmp 6) (.tmp 102) rfl (w.heap.size + 2) [.int .i64 S.all.e, .int .i64 S.all.m, .int .i64 S.own.e, .int .i64 S.own.m, .int .i64 S.b.k, .int .i64 S.b.t, .slice A1 KK.length C1, .int .i64 t] rfl rfl 42 _ HRS.out HI8.out rfl HON8.out ?_)
              intro w9 h9 ho9
              have H9 : Hid (w9.heap[w.heap.size + 2]? = some (.cells #[.int .i64 S.all.e, .int .i64 S.all.m, .int .i64 S.own.e, .int .i64 S.own.m, .int .i64 S.b.k, .int .i64 S.b.t, .slice A1 KK.length C1, .int .i64 t] 42 (0, 0))) := h9
              have HER9 : Hid (ER w9 (.slice A1 KK.length C1) KK) := ⟨by
                have h1 := ho9.below w.heap.size w (by omega) HPJ.out.bel
                exact Rd.only HPJ.out.er.rd ho9 (HOFF.out), HSX.out⟩
              have HB9 := Lib.hid (ho9.below w.heap.size w (by omega) HPJ.out.bel)
              clear h9 ho9 k0 k1 k2 k3 k4 k5 k6 k7
              go_wp2
              refine bodyPost_ret (v := .tuple #[.agg #[.int .i64 S.all.e, .int .i64 S.all.m, .int .i64 S.own.e, .int .i64 S.own.m, .int .i64 S.b.k, .int .i64 S.b.t, .slice A1 KK.length C1, .int .i64 t], .bool false]) (results_cell_tmp_row (P := Try.prog) (fn := Try.f24) rfl _ _ (w.heap.size + 2) 42 _ (0, 0) _ rfl H9.out Try.underlying42 rfl (by kernel_rfl)) rfl ?_
              rw [HA.out]
              refine ⟨A1, KK.length, C1, ?_, by have := HER9.out; rw [HKK.out] at this ⊢; exact this, HB9.out⟩
              rw [HTK.out]; rfl
              --DEV}
            | true =>
              clear HNO
              obtain ⟨⟨ik, it⟩, hI⟩ : ∃ x, x = mine S m (tickOf S s) := ⟨_, rfl⟩
              obtain ⟨⟨⟨ak, az⟩, ab⟩, hA⟩ : ∃ x, x = takB S.all S.b (tickOf S s) := ⟨_, rfl⟩
              obtain ⟨⟨⟨ok, oz⟩, ob⟩, hO⟩ : ∃ x, x = takB S.own (mine S m (tickOf S s)) (tickOf S s) := ⟨_, rfl⟩
              have HOUT : Hid (allow S m s = if (ab && ob) then (⟨S.all, S.own, ⟨ak, az⟩, rest (going S s).es m ++ [(m, ⟨ok, oz⟩)], tickOf S s⟩, true) else (going S s, false)) := by
                have := allow_out HOK.out m s hA hO
                rw [← HRR.out, Bool.true_and] at this
                exact this
              have TA : Hid (∀ w, Calls Try.prog 19 #[.agg #[.int .i64 S.all.e, .int .i64 S.all.m], .agg #[.int .i64 S.b.k, .int .i64 S.b.t], .int .i64 t] w fun e w' => e = .returned (.tuple #[.agg #[.int .i64 ak, .int .i64 az], .bool ab]) ∧ Below w.heap.size w w') := fun w => by
                have h1 := rtake_any S.all.e S.all.m S.b.k S.b.t t w
                have h2 : takB ⟨S.all.e, S.all.m⟩ ⟨S.b.k, S.b.t⟩ t = ((⟨ak, az⟩ : Bu), ab) := by rw [HTK.out]; exact hA.symm
                rw [h2] at h1
                exact h1
              have TO : Hid (∀ w, Calls Try.prog 19 #[.agg #[.int .i64 S.own.e, .int .i64 S.own.m], .agg #[.int .i64 ik, .int .i64 it], .int .i64 t] w fun e w' => e = .returned (.tuple #[.agg #[.int .i64 ok, .int .i64 oz], .bool ob]) ∧ Below w.heap.size w w') := fun w => by
                have h1 := rtake_any S.own.e S.own.m ik it t w
                have h2 : takB ⟨S.own.e, S.own.m⟩ ⟨ik, it⟩ t = ((⟨ok, oz⟩ : Bu), ob) := by rw [HTK.out, hI]; exact hO.symm
                rw [h2] at h1
                exact h1
              have HM8' : Hid (w8.heap[w.heap.size + 3]? = some (.cells #[.int .i64 ik, .int .i64 it] 25 (0, 0))) := by
                have := HM8.out
                rw [HTK.out, ← hI] at this
                exact this
              clear hI hA hO HM8 HRB HR16 HL8
              obtain ⟨k0, k1, k2, k3, k4, k5, k6, k7⟩ := cells8 HPJ.out.lim
              go_wp2_with fail
              refine (TA.out _).mono ?_
              rintro e w9 ⟨rfl, hb⟩
              have ha : Below w9.heap.size w9 (w9.alloc (.cells #[.int .i64 ak, .int .i64 az] 25)) := (Below.refl _ _).alloc (Nat.le_refl _) _
              have HPJ9 := Lib.hid ((HPJ.out.gr hb).gr ha)
              have HM9 := Lib.hid (heap_below (heap_below HM8'.out hb) ha)
              have HA9 : Hid ((w9.alloc (.cells #[.int .i64 ak, .int .i64 az] 25)).heap[w9.heap.size]? = some (.cells #[.int .i64 ak, .int .i64 az] 25 (0, 0))) := heap_alloc_last _ _
              clear hb ha k0 k1 k2 k3 k4 k5 k6 k7 HPJ HM8' TA
              go_upto_region 19 with fail
              generalize w9.alloc (.cells #[.int .i64 ak, .int .i64 az] 25) = w10 at HPJ9 HM9 HA9 ⊢
              obtain ⟨ga, hga⟩ : ∃ g, g = w9.heap.size := ⟨_, rfl⟩
              rw [← hga] at HA9 ⊢
              clear hga
              obtain ⟨k0, k1, k2, k3, k4, k5, k6, k7⟩ := cells8 HPJ9.out.lim
              obtain ⟨m0, m1⟩ := cells2 HM9.out
              go_wp2_with fail
              refine (TO.out _).mono ?_
              rintro e w11 ⟨rfl, hb⟩
              have ha : Below w11.heap.size w11 (w11.alloc (.cells #[.int .i64 ok, .int .i64 oz] 25)) := (Below.refl _ _).alloc (Nat.le_refl _) _
              have HPJ11 := Lib.hid ((HPJ9.out.gr hb).gr ha)
              have HA11 := Lib.hid (heap_below (heap_below HA9.out hb) ha)
              have HO11 : Hid ((w11.alloc (.cells #[.int .i64 ok, .int .i64 oz] 25)).heap[w11.heap.size]? = some (.cells #[.int .i64 ok, .int .i64 oz] 25 (0, 0))) := heap_alloc_last _ _
              clear hb ha k0 k1 k2 k3 k4 k5 k6 k7 m0 m1 HPJ9 HM9 HA9 TO
              go_upto_region 20 with fail
              generalize w11.alloc (.cells #[.int .i64 ok, .int .i64 oz] 25) = w12 at HPJ11 HA11 HO11 ⊢
              obtain ⟨go, hgo⟩ : ∃ g, g = w11.heap.size := ⟨_, rfl⟩
              rw [← hgo] at HO11 ⊢
              clear hgo
              go_cut [127] (fun s127 wx => s127 = .bool (!(ab && ob)) ∧ wx = w12)
              case first =>
                cases ab with
                | false =>
                  go_wp2_with fail
                  go_meet
                  exact ⟨rfl, rfl⟩
                | true =>
                  cases ob with
                  | false =>
                    go_wp2_with fail
                    go_meet
                    exact ⟨rfl, rfl⟩
                  | true =>
                    go_wp2_with fail
                    go_meet
                    exact ⟨rfl, rfl⟩
              case rest =>
                obtain ⟨hs127, hwc⟩ := hcut
                subst hs127 hwc
                obtain ⟨w12, hw12⟩ : ∃ x, x = wc := ⟨_, rfl⟩
                subst hw12
                obtain ⟨Y, hY⟩ : ∃ y, y = (ab && ob) := ⟨_, rfl⟩
                rw [← hY] at HOUT ⊢
                clear hY
                cases Y with
                | false =>
                  have HA : Hid (allow S m s = (going S s, false)) := HOUT.out
                  obtain ⟨k0, k1, k2, k3, k4, k5, k6, k7⟩ := cells8 HPJ11.out.lim
                  have HRS : Hid (w12.heap[w.heap.size + 2]? = some (.cells ([.int .i64 0, .int .i64 0, .int .i64 0, .int .i64 0, .int .i64 0, .int .i64 0, .slice none 0 0, .int .i64 0] : List Value).toArray 42 (0, 0))) := HPJ11.out.res
                  go_wp2_with (with_reducible refine wpList_store_whole rfl 42 (.tmp 6) (.tmp 128) rfl (w.heap.size + 2) [.int .i64 S.all.e, .int .i64 S.all.m, .int .i64 S.own.e, .int .i64 S.own.m, .int .i64 S.b.k, .int .i64 S.b.t, .slice A1 KK.length C1, .int .i64 t] rfl rfl 42 _ HRS.out HI8.out rfl HON8.out ?_)
                  intro w9 h9 ho9
                  have H9 : Hid (w9.heap[w.heap.size + 2]? = some (.cells #[.int .i64 S.all.e, .int .i64 S.all.m, .int .i64 S.own.e, .int .i64 S.own.m, .int .i64 S.b.k, .int .i64 S.b.t, .slice A1 KK.length C1, .int .i64 t] 42 (0, 0))) := h9
                  have HER9 : Hid (ER w9 (.slice A1 KK.length C1) KK) := ⟨by
                    have h1 := ho9.below w.heap.size w (by omega) HPJ11.out.bel
                    exact Rd.only HPJ11.out.er.rd ho9 (HOFF.out), HSX.out⟩
                  have HB9 := Lib.hid (ho9.below w.heap.size w (by omega) HPJ11.out.bel)
                  clear h9 ho9 k0 k1 k2 k3 k4 k5 k6 k7
                  go_wp2
                  refine bodyPost_ret (v := .tuple #[.agg #[.int .i64 S.all.e, .int .i64 S.all.m, .int .i64 S.own.e, .int .i64 S.own.m, .int .i64 S.b.k, .int .i64 S.b.t, .slice A1 KK.length C1, .int .i64 t], .bool false]) (results_cell_tmp_row (P := Try.prog) (fn := Try.f24) rfl _ _ (w.heap.size + 2) 42 _ (0, 0) _ rfl H9.out Try.underlying42 rfl (by kernel_rfl)) rfl ?_
                  rw [HA.out]
                  refine ⟨A1, KK.length, C1, ?_, by have := HER9.out; rw [HKK.out] at this ⊢; exact this, HB9.out⟩
                  rw [HTK.out]; rfl
                | true =>
                  have HA : Hid (allow S m s = (⟨S.all, S.own, ⟨ak, az⟩, rest (going S s).es m ++ [(m, ⟨ok, oz⟩)], tickOf S s⟩, true)) := HOUT.out
                  have HLK : Hid (w12.heap[w.heap.size]? = some (.cells ([.int .i64 S.all.e, .int .i64 S.all.m, .int .i64 S.own.e, .int .i64 S.own.m, .int .i64 S.b.k, .int .i64 S.b.t, .slice A1 KK.length C1, .int .i64 t] : List Value).toArray 42 (0, 0))) := HPJ11.out.lim
                  have HI2 : Hid ((Try.prog.info? 25).map (·.size) = some ([.int .i64 ak, .int .i64 az] : List Value).length) := by
                    show _ = _
                    kernel_rfl
                  have HF2 : Hid (4 + ([.int .i64 ak, .int .i64 az] : List Value).length ≤ ([.int .i64 S.all.e, .int .i64 S.all.m, .int .i64 S.own.e, .int .i64 S.own.m, .int .i64 S.b.k, .int .i64 S.b.t, .slice A1 KK.length C1, .int .i64 t] : List Value).length) := by show _ ≤ _; simp
                  have HO2 : Hid (∀ u ∈ ([.int .i64 ak, .int .i64 az] : List Value), u.oneCell' = true) := by
                    intro u hu; simp only [List.mem_cons, List.not_mem_nil, or_false] at hu; rcases hu with rfl | rfl <;> rfl
                  obtain ⟨m0, m1⟩ := cells2 HA11.out
                  go_upto_region 23 with (with_reducible refine wpList_store_splice rfl 25 (.tmp 130) (.tmp 129) rfl w.heap.size 4 [.int .i64 ak, .int .i64 az] rfl rfl 42 _ HLK.out HI2.out HF2.out HO2.out ?_)
                  intro w13 h13 ho13
                  have hr2 := (Array.getElem?_eq_some_iff.1 HPJ11.out.res).1
                  have HPJ13 : Hid (PJ S t v0 v1 v2 v3 v4 v5 A1 C1 ⟨ak, az⟩ KK w w13) :=
                    ⟨h13, (ho13.heap _ (by omega) (by omega)).trans HPJ11.out.box, (ho13.heap _ hr2 (by omega)).trans HPJ11.out.res, ⟨Rd.only HPJ11.out.er.rd ho13 HOFFL.out, HSX.out⟩, ho13.below _ _ (Nat.le_refl _) HPJ11.out.bel⟩
                  have HGO : Hid (go ≠ w.heap.size) := by
                    rintro rfl
                    have h1 := HO11.out
                    rw [HPJ11.out.lim] at h1
                    cases h1
                  have HO13 : Hid (w13.heap[go]? = some (.cells #[.int .i64 ok, .int .i64 oz] 25 (0, 0))) := (ho13.heap _ (Array.getElem?_eq_some_iff.1 HO11.out).1 HGO.out).trans HO11.out
                  have hbig13 : w.heap.size + 3 ≤ w13.heap.size := (Array.getElem?_eq_some_iff.1 HPJ13.out.res).1
                  have HBIG := Lib.hid hbig13
                  clear h13 ho13 hr2 m0 m1 HLK HI2 HF2 HO2 HPJ11 HA11 HO11 HON8 HI8 HOFF HOFFL HOFF0 hbig13
                  go_wp2_with fail
                  go_loopw [18, 19] (fun nv jv wr => ∃ j : Nat, j ≤ KK.length ∧ jv = .int .i64 (j : Int) ∧ wr.ownsRow w13.heap.size 72 8 nv (restTo KK m j).length (flatE (restTo KK m j)) ∧ Gr w13 wr) (fun _ jv _ => KK.length - (intOf jv).toNat)
                  case atStart => exact ⟨0, Nat.zero_le _, rfl, World.ownsRow_nil _ _ _ _, Gr.refl _⟩
                  case round =>
                    obtain ⟨j, hjn, hjv, hown, hgr⟩ := hrel
                    subst hjv
                    have HOW := Lib.hid hown
                    have HGR := Lib.hid hgr
                    have hk256 : KK.length ≤ 256 := HKL.out
                    clear hown hgr
                    by_cases hlt : j < KK.length
                    · --DEV{
                      obtain ⟨b, o, rfl, hbl, hc⟩ := HPJ13.out.er.cells hlt
                      obtain ⟨a0, a1, a2, a3, a4, a5, x, y, he⟩ := entry_six (HSX.out _ (List.getElem_mem hlt))
                      rw [he] at hc
                      have HCL : Hid (∀ w', Gr w13 w' → (w'.cell? ⟨b, o + j * 8, none⟩ = some (.int .u8 (a0.toNat : Int)) ∧ w'.cell? ⟨b, o + j * 8 + 1, none⟩ = some (.int .u8 (a1.toNat : Int)) ∧ w'.cell? ⟨b, o + j * 8 + 2, none⟩ = some (.int .u8 (a2.toNat : Int)) ∧ w'.cell? ⟨b, o + j * 8 + 3, none⟩ = some (.int .u8 (a3.toNat : Int)) ∧ w'.cell? ⟨b, o + j * 8 + 4, none⟩ = some (.int .u8 (a4.toNat : Int)) ∧
                          w'.cell? ⟨b, o + j * 8 + 5, none⟩ = some (.int .u8 (a5.toNat : Int)) ∧ w'.cell? ⟨b, o + j * 8 + 6, none⟩ = some (.int .i64 x) ∧ w'.cell? ⟨b, o + j * 8 + 7, none⟩ = some (.int .i64 y))) :=
                        fun w' hw => elem_cells (i := j) (fun jj u hu => by rw [Below.cell hw hbl]; exact hc jj u hu)
                      have HJJ : Hid (∃ h : j < KK.length, KK[j] = ([a0, a1, a2, a3, a4, a5], (⟨x, y⟩ : Bu))) := ⟨hlt, he⟩
                      clear hc hbl he
                      go_upto_region 27 with fail
                      have HC : Hid (Gr wr wr.drew) := Gr.drew wr
                      by_cases hem : [a0, a1, a2, a3, a4, a5] = m
                      · have HNQ : ∀ w, (binOp .neq 49 (.agg #[.int .u8 (a0.toNat : Int), .int .u8 (a1.toNat : Int), .int .u8 (a2.toNat : Int), .int .u8 (a3.toNat : Int), .int .u8 (a4.toNat : Int), .int .u8 (a5.toNat : Int)]) (.agg #[v0, v1, v2, v3, v4, v5])).run Try.prog w = .ok (.bool false) w := fun w => by
                          rw [← HMV.out]
                          have := neq_mac (m := [a0, a1, a2, a3, a4, a5]) (m' := m) rfl H6.out w
                          rw [decide_eq_true hem] at this
                          exact this
                        have HEM := Lib.hid hem
                        clear hem
                        refine wp_region_G 7 Gr (by kernel_rfl) ?_
                        generalize wr.drew = wc at HC ⊢
                        -- 0: slot 137
                        refine wpG_take preGr (i := 0) (v := ?_) (by kernel_rfl) (some 137) (by kernel_rfl) rfl (by kernel_rfl) (by kernel_rfl) (by kernel_rfl) (fun _ _ _ h => h) (by rfl) (fun w' hw' => ?_) rfl ?_
                        rotate_left
                        · try (have hxx := Gr.trans HGR.out (Gr.trans HC.out hw'); have hq6 := cells6 (heap_below HPJ13.out.box hxx); obtain ⟨m0, m1, m2, m3, m4, m5⟩ := hq6; have hqc := HCL.out _ hxx; obtain ⟨c0, c1, c2, c3, c4, c5, c6, c7⟩ := hqc; clear hxx)
                          go_simp
                          with_reducible rfl
                        simp only [Act.put, List.setIfInBounds_toArray, List.set_cons_zero, List.set_cons_succ]
                        -- 1: slot 138
                        refine wpG_take preGr (i := 1) (v := ?_) (by kernel_rfl) (some 138) (by kernel_rfl) rfl (by kernel_rfl) (by kernel_rfl) (by kernel_rfl) (fun _ _ _ h => h) (by rfl) (fun w' hw' => ?_) rfl ?_
                        rotate_left
                        · try (have hxx := Gr.trans HGR.out (Gr.trans HC.out hw'); have hq6 := cells6 (heap_below HPJ13.out.box hxx); obtain ⟨m0, m1, m2, m3, m4, m5⟩ := hq6; have hqc := HCL.out _ hxx; obtain ⟨c0, c1, c2, c3, c4, c5, c6, c7⟩ := hqc; clear hxx)
                          go_simp
                          with_reducible rfl
                        simp only [Act.put, List.setIfInBounds_toArray, List.set_cons_zero, List.set_cons_succ]
                        -- 2: slot 139
                        refine wpG_take preGr (i := 2) (v := ?_) (by kernel_rfl) (some 139) (by kernel_rfl) rfl (by kernel_rfl) (by kernel_rfl) (by kernel_rfl) (fun _ _ _ h => h) (by rfl) (fun w' hw' => ?_) rfl ?_
                        rotate_left
                        · try (have hxx := Gr.trans HGR.out (Gr.trans HC.out hw'); have hq6 := cells6 (heap_below HPJ13.out.box hxx); obtain ⟨m0, m1, m2, m3, m4, m5⟩ := hq6; have hqc := HCL.out _ hxx; obtain ⟨c0, c1, c2, c3, c4, c5, c6, c7⟩ := hqc; clear hxx)
                          go_simp
                          with_reducible rfl
                        simp only [Act.put, List.setIfInBounds_toArray, List.set_cons_zero, List.set_cons_succ]
                        -- 3: slot 140
                        refine wpG_take preGr (i := 3) (v := ?_) (by kernel_rfl) (some 140) (by kernel_rfl) rfl (by kernel_rfl) (by kernel_rfl) (by kernel_rfl) (fun _ _ _ h => h) (by rfl) (fun w' hw' => ?_) rfl ?_
                        rotate_left
                        · try (have hxx := Gr.trans HGR.out (Gr.trans HC.out hw'); have hq6 := cells6 (heap_below HPJ13.out.box hxx); obtain ⟨m0, m1, m2, m3, m4, m5⟩ := hq6; have hqc := HCL.out _ hxx; obtain ⟨c0, c1, c2, c3, c4, c5, c6, c7⟩ := hqc; clear hxx)
                          go_simp
                          with_reducible rfl
                        simp only [Act.put, List.setIfInBounds_toArray, List.set_cons_zero, List.set_cons_succ]
                        -- 4: slot 141
                        refine wpG_take preGr (i := 4) (v := ?_) (by kernel_rfl) (some 141) (by kernel_rfl) rfl (by kernel_rfl) (by kernel_rfl) (by kernel_rfl) (fun _ _ _ h => h) (by rfl) (fun w' hw' => ?_) rfl ?_
                        rotate_left
                        · try (have hxx := Gr.trans HGR.out (Gr.trans HC.out hw'); have hq6 := cells6 (heap_below HPJ13.out.box hxx); obtain ⟨m0, m1, m2, m3, m4, m5⟩ := hq6; have hqc := HCL.out _ hxx; obtain ⟨c0, c1, c2, c3, c4, c5, c6, c7⟩ := hqc; clear hxx)
                          go_simp
                          with_reducible rfl
                        simp only [Act.put, List.setIfInBounds_toArray, List.set_cons_zero, List.set_cons_succ]
                        -- 5: slot 142
                        refine wpG_take preGr (i := 5) (v := ?_) (by kernel_rfl) (some 142) (by kernel_rfl) rfl (by kernel_rfl) (by kernel_rfl) (by kernel_rfl) (fun _ _ _ h => h) (by rfl) (fun w' hw' => ?_) rfl ?_
                        rotate_left
                        · try (have hxx := Gr.trans HGR.out (Gr.trans HC.out hw'); have hq6 := cells6 (heap_below HPJ13.out.box hxx); obtain ⟨m0, m1, m2, m3, m4, m5⟩ := hq6; have hqc := HCL.out _ hxx; obtain ⟨c0, c1, c2, c3, c4, c5, c6, c7⟩ := hqc; clear hxx)
                          go_simp
                          with_reducible rfl
                        simp only [Act.put, List.setIfInBounds_toArray, List.set_cons_zero, List.set_cons_succ]
                        -- 6: slot 143
                        refine wpG_take preGr (i := 6) (v := ?_) (by kernel_rfl) (some 143) (by kernel_rfl) rfl (by kernel_rfl) (by kernel_rfl) (by kernel_rfl) (fun _ _ _ h => h) (by rfl) (fun w' hw' => ?_) rfl ?_
                        rotate_left
                        · try (have hxx := Gr.trans HGR.out (Gr.trans HC.out hw'); have hq6 := cells6 (heap_below HPJ13.out.box hxx); obtain ⟨m0, m1, m2, m3, m4, m5⟩ := hq6; have hqc := HCL.out _ hxx; obtain ⟨c0, c1, c2, c3, c4, c5, c6, c7⟩ := hqc; clear hxx)
                          go_simp
                          with_reducible rfl
                        simp only [Act.put, List.setIfInBounds_toArray, List.set_cons_zero, List.set_cons_succ]
                        refine wpG_done (by kernel_rfl) ?_ _
                        clear HNQ
                        go_wp2_with fail
                        go_roundw
                        case rel =>
                          have hnx : restTo KK m (j + 1) = restTo KK m j := by obtain ⟨h1, h2⟩ := HJJ.out; exact restTo_no h1 (by rw [h2]; exact HEM.out)
                          have hoo : wc.ownsRow w13.heap.size 72 8 u18 (restTo KK m (j + 1)).length (flatE (restTo KK m (j + 1))) := by rw [hnx]; exact ownsRow_below HOW.out HC.out
                          first
                            | exact ⟨j + 1, by omega, by go_num, hoo, Gr.trans HGR.out HC.out⟩
                            | ((repeat apply Exists.intro); exact ⟨⟨j + 1, by omega, by go_num, hoo, Gr.trans HGR.out HC.out⟩, rfl⟩)
                        case measure => simp [intOf]; omega
                      · have HNQ : ∀ w, (binOp .neq 49 (.agg #[.int .u8 (a0.toNat : Int), .int .u8 (a1.toNat : Int), .int .u8 (a2.toNat : Int), .int .u8 (a3.toNat : Int), .int .u8 (a4.toNat : Int), .int .u8 (a5.toNat : Int)]) (.agg #[v0, v1, v2, v3, v4, v5])).run Try.prog w = .ok (.bool true) w := fun w => by
                          rw [← HMV.out]
                          have := neq_mac (m := [a0, a1, a2, a3, a4, a5]) (m' := m) rfl H6.out w
                          rw [decide_eq_false hem] at this
                          exact this
                        have HEM := Lib.hid hem
                        clear hem
                        refine wp_region_G 7 Gr (by kernel_rfl) ?_
                        generalize wr.drew = wc at HC ⊢
                        -- 0: slot 137
                        refine wpG_take preGr (i := 0) (v := ?_) (by kernel_rfl) (some 137) (by kernel_rfl) rfl (by kernel_rfl) (by kernel_rfl) (by kernel_rfl) (fun _ _ _ h => h) (by rfl) (fun w' hw' => ?_) rfl ?_
                        rotate_left
                        · try (have hxx := Gr.trans HGR.out (Gr.trans HC.out hw'); have hq6 := cells6 (heap_below HPJ13.out.box hxx); obtain ⟨m0, m1, m2, m3, m4, m5⟩ := hq6; have hqc := HCL.out _ hxx; obtain ⟨c0, c1, c2, c3, c4, c5, c6, c7⟩ := hqc; clear hxx)
                          go_simp
                          with_reducible rfl
                        simp only [Act.put, List.setIfInBounds_toArray, List.set_cons_zero, List.set_cons_succ]
                        -- 1: slot 138
                        refine wpG_take preGr (i := 1) (v := ?_) (by kernel_rfl) (some 138) (by kernel_rfl) rfl (by kernel_rfl) (by kernel_rfl) (by kernel_rfl) (fun _ _ _ h => h) (by rfl) (fun w' hw' => ?_) rfl ?_
                        rotate_left
                        · try (have hxx := Gr.trans HGR.out (Gr.trans HC.out hw'); have hq6 := cells6 (heap_below HPJ13.out.box hxx); obtain ⟨m0, m1, m2, m3, m4, m5⟩ := hq6; have hqc := HCL.out _ hxx; obtain ⟨c0, c1, c2, c3, c4, c5, c6, c7⟩ := hqc; clear hxx)
                          go_simp
                          with_reducible rfl
                        simp only [Act.put, List.setIfInBounds_toArray, List.set_cons_zero, List.set_cons_succ]
                        -- 2: slot 139
                        refine wpG_take preGr (i := 2) (v := ?_) (by kernel_rfl) (some 139) (by kernel_rfl) rfl (by kernel_rfl) (by kernel_rfl) (by kernel_rfl) (fun _ _ _ h => h) (by rfl) (fun w' hw' => ?_) rfl ?_
                        rotate_left
                        · try (have hxx := Gr.trans HGR.out (Gr.trans HC.out hw'); have hq6 := cells6 (heap_below HPJ13.out.box hxx); obtain ⟨m0, m1, m2, m3, m4, m5⟩ := hq6; have hqc := HCL.out _ hxx; obtain ⟨c0, c1, c2, c3, c4, c5, c6, c7⟩ := hqc; clear hxx)
                          go_simp
                          with_reducible rfl
                        simp only [Act.put, List.setIfInBounds_toArray, List.set_cons_zero, List.set_cons_succ]
                        -- 3: slot 140
                        refine wpG_take preGr (i := 3) (v := ?_) (by kernel_rfl) (some 140) (by kernel_rfl) rfl (by kernel_rfl) (by kernel_rfl) (by kernel_rfl) (fun _ _ _ h => h) (by rfl) (fun w' hw' => ?_) rfl ?_
                        rotate_left
                        · try (have hxx := Gr.trans HGR.out (Gr.trans HC.out hw'); have hq6 := cells6 (heap_below HPJ13.out.box hxx); obtain ⟨m0, m1, m2, m3, m4, m5⟩ := hq6; have hqc := HCL.out _ hxx; obtain ⟨c0, c1, c2, c3, c4, c5, c6, c7⟩ := hqc; clear hxx)
                          go_simp
                          with_reducible rfl
                        simp only [Act.put, List.setIfInBounds_toArray, List.set_cons_zero, List.set_cons_succ]
                        -- 4: slot 141
                        refine wpG_take preGr (i := 4) (v := ?_) (by kernel_rfl) (some 141) (by kernel_rfl) rfl (by kernel_rfl) (by kernel_rfl) (by kernel_rfl) (fun _ _ _ h => h) (by rfl) (fun w' hw' => ?_) rfl ?_
                        rotate_left
                        · try (have hxx := Gr.trans HGR.out (Gr.trans HC.out hw'); have hq6 := cells6 (heap_below HPJ13.out.box hxx); obtain ⟨m0, m1, m2, m3, m4, m5⟩ := hq6; have hqc := HCL.out _ hxx; obtain ⟨c0, c1, c2, c3, c4, c5, c6, c7⟩ := hqc; clear hxx)
                          go_simp
                          with_reducible rfl
                        simp only [Act.put, List.setIfInBounds_toArray, List.set_cons_zero, List.set_cons_succ]
                        -- 5: slot 142
                        refine wpG_take preGr (i := 5) (v := ?_) (by kernel_rfl) (some 142) (by kernel_rfl) rfl (by kernel_rfl) (by kernel_rfl) (by kernel_rfl) (fun _ _ _ h => h) (by rfl) (fun w' hw' => ?_) rfl ?_
                        rotate_left
                        · try (have hxx := Gr.trans HGR.out (Gr.trans HC.out hw'); have hq6 := cells6 (heap_below HPJ13.out.box hxx); obtain ⟨m0, m1, m2, m3, m4, m5⟩ := hq6; have hqc := HCL.out _ hxx; obtain ⟨c0, c1, c2, c3, c4, c5, c6, c7⟩ := hqc; clear hxx)
                          go_simp
                          with_reducible rfl
                        simp only [Act.put, List.setIfInBounds_toArray, List.set_cons_zero, List.set_cons_succ]
                        -- 6: slot 143
                        refine wpG_take preGr (i := 6) (v := ?_) (by kernel_rfl) (some 143) (by kernel_rfl) rfl (by kernel_rfl) (by kernel_rfl) (by kernel_rfl) (fun _ _ _ h => h) (by rfl) (fun w' hw' => ?_) rfl ?_
                        rotate_left
                        · try (have hxx := Gr.trans HGR.out (Gr.trans HC.out hw'); have hq6 := cells6 (heap_below HPJ13.out.box hxx); obtain ⟨m0, m1, m2, m3, m4, m5⟩ := hq6; have hqc := HCL.out _ hxx; obtain ⟨c0, c1, c2, c3, c4, c5, c6, c7⟩ := hqc; clear hxx)
                          go_simp
                          with_reducible rfl
                        simp only [Act.put, List.setIfInBounds_toArray, List.set_cons_zero, List.set_cons_succ]
                        refine wpG_done (by kernel_rfl) ?_ _
                        clear HNQ
                        obtain ⟨c0, c1, c2, c3, c4, c5, c6, c7⟩ := HCL.out wc (Gr.trans HGR.out HC.out)
                        have hbe : Below wc.heap.size wc (wc.alloc (.cells #[.int .u8 (a0.toNat : Int), .int .u8 (a1.toNat : Int), .int .u8 (a2.toNat : Int), .int .u8 (a3.toNat : Int), .int .u8 (a4.toNat : Int), .int .u8 (a5.toNat : Int), .int .i64 x, .int .i64 y] 72)) := (Below.refl _ _).alloc (Nat.le_refl _) _
                        have HBE := Lib.hid hbe
                        have HRD : Hid (Rd (wc.alloc (.cells #[.int .u8 (a0.toNat : Int), .int .u8 (a1.toNat : Int), .int .u8 (a2.toNat : Int), .int .u8 (a3.toNat : Int), .int .u8 (a4.toNat : Int), .int .u8 (a5.toNat : Int), .int .i64 x, .int .i64 y] 72)) 8 (.slice (some ⟨wc.heap.size, 0, none⟩) 1 1) 1 (entC ([a0, a1, a2, a3, a4, a5], ⟨x, y⟩))) := rd_new wc _ 72 1 8 rfl (by decide)
                        have HOX : Hid ((wc.alloc (.cells #[.int .u8 (a0.toNat : Int), .int .u8 (a1.toNat : Int), .int .u8 (a2.toNat : Int), .int .u8 (a3.toNat : Int), .int .u8 (a4.toNat : Int), .int .u8 (a5.toNat : Int), .int .i64 x, .int .i64 y] 72)).ownsRow w13.heap.size 72 8 u18 (restTo KK m j).length (flatE (restTo KK m j))) := ownsRow_below (ownsRow_below HOW.out HC.out) hbe
                        have HLE : Hid ((restTo KK m j).length ≤ 256) := Nat.le_trans (restTo_le KK m j) HKL.out
                        have HGX : Hid (Gr w13 (wc.alloc (.cells #[.int .u8 (a0.toNat : Int), .int .u8 (a1.toNat : Int), .int .u8 (a2.toNat : Int), .int .u8 (a3.toNat : Int), .int .u8 (a4.toNat : Int), .int .u8 (a5.toNat : Int), .int .i64 x, .int .i64 y] 72))) := Gr.trans (Gr.trans HGR.out HC.out) hbe
                        have HCX : Hid (∀ u ∈ entC ([a0, a1, a2, a3, a4, a5], (⟨x, y⟩ : Bu)), u.oneCell' = true) := by show ∀ u ∈ _, _; rw [← flatE_one]; exact flatE_cell _
                        have HBY : Hid (((restTo KK m j).length + 1) * 24 ≤ 140737488355328) := by show _ ≤ _; have := HLE.out; omega
                        clear hbe
                        go_wp2_with (at_builtin; refine wpList_append_gr _ rfl (.tmp 144) (.tmp 149) 40 rfl w13.heap.size 72 i0 _ 8 24 Try.underlying40 hi hz0 hz1 hz2 rfl (by decide) _ _ _ rfl HOX.out _ 1 _ rfl HRD.out HCX.out HBY.out (by decide) (Below.size HGX.out) ?_)
                        intro v' w14 ho hg
                        have HG14 : Hid (Gr w13 w14) := Below.trans HGX.out (grown_below HOX.out (Below.size HGX.out) hg)
                        have HO14 := Lib.hid ho
                        clear ho hg c0 c1 c2 c3 c4 c5 c6 c7
                        go_wp2_with fail
                        go_roundw
                        case rel =>
                          have hnx : restTo KK m (j + 1) = restTo KK m j ++ [([a0, a1, a2, a3, a4, a5], (⟨x, y⟩ : Bu))] := by
                            obtain ⟨h1, h2⟩ := HJJ.out
                            have := restTo_yes (m := m) h1 (by rw [h2]; exact HEM.out)
                            rw [h2] at this
                            exact this
                          have hoo : w14.ownsRow w13.heap.size 72 8 v' (restTo KK m (j + 1)).length (flatE (restTo KK m (j + 1))) := by
                            rw [hnx, List.length_append, flatE_append, flatE_one]
                            exact HO14.out
                          first
                            | exact ⟨j + 1, by omega, by go_num, hoo, HG14.out⟩
                            | ((repeat apply Exists.intro); exact ⟨⟨j + 1, by omega, by go_num, hoo, HG14.out⟩, rfl⟩)
                        case measure => simp [intOf]; omega
                      --DEV}
                    · obtain rfl : KK.length = j := by omega
                      have HOW2 : Hid (wr.ownsRow w13.heap.size 72 8 u18 (rest KK m).length (flatE (rest KK m))) := by
                        have := HOW.out
                        rw [restTo_all] at this
                        exact this
                      have HRL : Hid ((rest KK m).length ≤ 256) := Nat.le_trans (rest_sub KK m).length_le HKL.out
                      have HEN : Hid (entC (m, (⟨ok, oz⟩ : Bu)) = [v0, v1, v2, v3, v4, v5, .int .i64 ok, .int .i64 oz]) := by
                        show _ = _
                        have h1 : (m.map u8v).toArray = #[v0, v1, v2, v3, v4, v5] := by
                          have := HMV.out
                          unfold macV at this
                          exact Value.agg.inj this
                        have h2 : m.map u8v = [v0, v1, v2, v3, v4, v5] := congrArg Array.toList h1
                        show m.map u8v ++ _ = _
                        rw [h2]; rfl
                      have HPJW := Lib.hid (HPJ13.out.gr HGR.out)
                      have HOG := Lib.hid (heap_below HO13.out HGR.out)
                      have hbe : Below wr.heap.size wr (wr.alloc (.cells #[v0, v1, v2, v3, v4, v5, .int .i64 ok, .int .i64 oz] 72)) := (Below.refl _ _).alloc (Nat.le_refl _) _
                      have HRD : Hid (Rd (wr.alloc (.cells #[v0, v1, v2, v3, v4, v5, .int .i64 ok, .int .i64 oz] 72)) 8 (.slice (some ⟨wr.heap.size, 0, none⟩) 1 1) 1 (entC (m, (⟨ok, oz⟩ : Bu)))) := by
                        show Rd _ _ _ _ _
                        rw [HEN.out]
                        exact rd_new wr _ 72 1 8 rfl (by decide)
                      have HOX : Hid ((wr.alloc (.cells #[v0, v1, v2, v3, v4, v5, .int .i64 ok, .int .i64 oz] 72)).ownsRow w13.heap.size 72 8 u18 (rest KK m).length (flatE (rest KK m))) := ownsRow_below HOW2.out hbe
                      have HGX : Hid (Gr w13 (wr.alloc (.cells #[v0, v1, v2, v3, v4, v5, .int .i64 ok, .int .i64 oz] 72))) := Gr.trans HGR.out hbe
                      have HCX : Hid (∀ u ∈ entC (m, (⟨ok, oz⟩ : Bu)), u.oneCell' = true) := by show ∀ u ∈ _, _; rw [← flatE_one]; exact flatE_cell _
                      have HBY : Hid (((rest KK m).length + 1) * 24 ≤ 140737488355328) := by show _ ≤ _; have := HRL.out; omega
                      obtain ⟨k0, k1, k2, k3, k4, k5, k6, k7⟩ := cells8 HPJW.out.lim
                      obtain ⟨m0, m1, m2, m3, m4, m5⟩ := cells6 HPJW.out.box
                      obtain ⟨q0, q1⟩ := cells2 HOG.out
                      clear hbe HOW HOW2 hk256 HO13
                      go_wp2_with (at_builtin; refine wpList_append_gr _ rfl (.tmp 151) (.tmp 155) 40 rfl w13.heap.size 72 i0 _ 8 24 Try.underlying40 hi hz0 hz1 hz2 rfl (by decide) _ _ _ rfl HOX.out _ 1 _ rfl HRD.out HCX.out HBY.out (by decide) (Below.size HGX.out) ?_)
                      intro v' w14 ho hg
                      have hG14 : Gr w13 w14 := Below.trans HGX.out (grown_below HOX.out (Below.size HGX.out) hg)
                      have HO14 : Hid (w14.ownsRow w13.heap.size 72 8 v' (rest KK m ++ [(m, (⟨ok, oz⟩ : Bu))]).length (flatE (rest KK m ++ [(m, (⟨ok, oz⟩ : Bu))]))) := by
                        show World.ownsRow _ _ _ _ _ _ _
                        rw [List.length_append, flatE_append, flatE_one]
                        exact ho
                      have HPJ14 := Lib.hid (HPJ13.out.gr hG14)
                      obtain ⟨A2, C2, hv', _, _⟩ := (own_rd HO14.out).shape
                      subst hv'
                      have HOF2 : Hid (Off (w.heap.size + 2) A2 ∧ Off w.heap.size A2) := by
                        have hb13 := HBIG.out
                        constructor
                        all_goals
                          intro ad had
                          obtain ⟨_, ⟨h1, _⟩ | ⟨g, cap, cur, h1, h2, _⟩⟩ := HO14.out
                          · simp only [Value.slice.injEq] at h1; rw [h1.1] at had; cases had
                          · simp only [Value.slice.injEq] at h1; rw [h1.1] at had; obtain rfl := Option.some.inj had; show g ≠ _; omega
                      have HER14 : Hid (ER w14 (.slice A2 (rest KK m ++ [(m, (⟨ok, oz⟩ : Bu))]).length C2) (rest KK m ++ [(m, (⟨ok, oz⟩ : Bu))])) := ⟨own_rd HO14.out, fun p hp => by
                        rcases List.mem_append.1 hp with hp | hp
                        · exact HSX.out p ((rest_sub KK m).subset hp)
                        · obtain rfl := List.mem_singleton.1 hp; exact H6.out⟩
                      obtain ⟨L2, hL2⟩ : ∃ l, l = rest KK m ++ [(m, (⟨ok, oz⟩ : Bu))] := ⟨_, rfl⟩
                      rw [← hL2] at HO14 HER14 ⊢
                      have HL2 := Lib.hid hL2
                      have HLW : Hid (w14.heap[w.heap.size]? = some (.cells ([.int .i64 S.all.e, .int .i64 S.all.m, .int .i64 S.own.e, .int .i64 S.own.m, .int .i64 ak, .int .i64 az, .slice A1 KK.length C1, .int .i64 t] : List Value).toArray 42 (0, 0))) := HPJ14.out.lim
                      have HI1 : Hid ((Try.prog.info? 40).map (·.size) = some 1) := by
                        show _ = _
                        kernel_rfl
                      have HL8 : Hid (6 < ([.int .i64 S.all.e, .int .i64 S.all.m, .int .i64 S.own.e, .int .i64 S.own.m, .int .i64 ak, .int .i64 az, .slice A1 KK.length C1, .int .i64 t] : List Value).length) := by show _ < _; simp
                      clear hL2 ho hg hG14 k0 k1 k2 k3 k4 k5 k6 k7 m0 m1 m2 m3 m4 m5 q0 q1 HOX HRD HCX HBY HGX HPJW HOG
                      go_upto_region 30 with (with_reducible refine wpList_store_cell rfl 40 (.tmp 157) (.tmp 156) rfl w.heap.size 6 (.slice A2 L2.length C2) rfl rfl 42 [.int .i64 S.all.e, .int .i64 S.all.m, .int .i64 S.own.e, .int .i64 S.own.m, .int .i64 ak, .int .i64 az, .slice A1 KK.length C1, .int .i64 t] HLW.out HI1.out HL8.out rfl ?_)
                      intro w15 h15 ho15
                      have H15 : Hid (w15.heap[w.heap.size]? = some (.cells #[.int .i64 S.all.e, .int .i64 S.all.m, .int .i64 S.own.e, .int .i64 S.own.m, .int .i64 ak, .int .i64 az, .slice A2 L2.length C2, .int .i64 t] 42 (0, 0))) := h15
                      have hr2 := (Array.getElem?_eq_some_iff.1 HPJ14.out.res).1
                      have HRS15 : Hid (w15.heap[w.heap.size + 2]? = some (.cells ([.int .i64 0, .int .i64 0, .int .i64 0, .int .i64 0, .int .i64 0, .int .i64 0, .slice none 0 0, .int .i64 0] : List Value).toArray 42 (0, 0))) := (ho15.heap _ hr2 (by omega)).trans HPJ14.out.res
                      have HER15 : Hid (ER w15 (.slice A2 L2.length C2) L2) := ⟨Rd.only HER14.out.rd ho15 HOF2.out.2, HER14.out.six⟩
                      have HB15 := Lib.hid (ho15.below w.heap.size w (Nat.le_refl _) HPJ14.out.bel)
                      have HI9 : Hid ((Try.prog.info? 42).map (·.size) = some ([.int .i64 S.all.e, .int .i64 S.all.m, .int .i64 S.own.e, .int .i64 S.own.m, .int .i64 ak, .int .i64 az, .slice A2 L2.length C2, .int .i64 t] : List Value).length) := by
                        show _ = _
                        kernel_rfl
                      have HON9 : Hid (∀ u ∈ ([.int .i64 S.all.e, .int .i64 S.all.m, .int .i64 S.own.e, .int .i64 S.own.m, .int .i64 ak, .int .i64 az, .slice A2 L2.length C2, .int .i64 t] : List Value), u.oneCell' = true) := by
                        intro u hu; simp only [List.mem_cons, List.not_mem_nil, or_false] at hu; rcases hu with rfl | rfl | rfl | rfl | rfl | rfl | rfl | rfl <;> rfl
                      clear h15 ho15 hr2
                      obtain ⟨k0, k1, k2, k3, k4, k5, k6, k7⟩ := cells8 H15.out
                      go_wp2_with (with_reducible refine wpList_store_whole rfl 42 (.tmp 6) (.tmp 158) rfl (w.heap.size + 2) [.int .i64 S.all.e, .int .i64 S.all.m, .int .i64 S.own.e, .int .i64 S.own.m, .int .i64 ak, .int .i64 az, .slice A2 L2.length C2, .int .i64 t] rfl rfl 42 _ HRS15.out HI9.out rfl HON9.out ?_)
                      intro w16 h16 ho16
                      have H16 : Hid (w16.heap[w.heap.size + 2]? = some (.cells #[.int .i64 S.all.e, .int .i64 S.all.m, .int .i64 S.own.e, .int .i64 S.own.m, .int .i64 ak, .int .i64 az, .slice A2 L2.length C2, .int .i64 t] 42 (0, 0))) := h16
                      have HER16 : Hid (ER w16 (.slice A2 L2.length C2) L2) := ⟨Rd.only HER15.out.rd ho16 HOF2.out.1, HER15.out.six⟩
                      have HB16 := Lib.hid (ho16.below w.heap.size w (by omega) HB15.out)
                      clear h16 ho16 k0 k1 k2 k3 k4 k5 k6 k7
                      go_wp2
                      refine bodyPost_ret (v := .tuple #[.agg #[.int .i64 S.all.e, .int .i64 S.all.m, .int .i64 S.own.e, .int .i64 S.own.m, .int .i64 ak, .int .i64 az, .slice A2 L2.length C2, .int .i64 t], .bool true]) (results_cell_tmp_row (P := Try.prog) (fn := Try.f24) rfl _ _ (w.heap.size + 2) 42 _ (0, 0) _ rfl H16.out Try.underlying42 rfl (by kernel_rfl)) rfl ?_
                      rw [HA.out]
                      refine ⟨A2, L2.length, C2, ?_, ?_, HB16.out⟩
                      · rw [HTK.out]
                      · have := HER16.out
                        rw [HL2.out] at this ⊢
                        rw [HKK.out] at this
                        rw [HKK.out]
                        exact this
end Go.Proofs.Ytblnglkjpnpmbaa.Bk
