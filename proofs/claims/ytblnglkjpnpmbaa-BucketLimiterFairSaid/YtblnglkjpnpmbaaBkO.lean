/-
  goOn: a limiter goes on to a tick, and forgets the buckets that are full as of it.
-/
import Derived.Test.YtblnglkjpnpmbaaBkL
import Derived.Test.YtblnglkjpnpmbaaGrowH
namespace Go.Proofs.Ytblnglkjpnpmbaa.Bk
open Go.RowKit
set_option linter.unusedVariables false
set_option linter.unusedSimpArgs false

/-- The limiter as of the tick that counts. -/
def going (S : Li) (s : Int) : Li := { S with es := kept S (tickOf S s), t := tickOf S s }
theorem going_ok {S : Li} (hS : OkL S) (s : Int) : OkL (going S s) := by
  obtain ⟨ht, ht1⟩ := tickOf_ge S s hS.t1
  exact ⟨hS.all, hS.own, hS.b, Int.le_trans hS.bt ht, fun p hp => ⟨(hS.es p ((kept_sub S _).subset hp)).1, Int.le_trans (hS.es p ((kept_sub S _).subset hp)).2 ht⟩, hS.keys.sublist ((kept_sub S _).map _), Int.le_trans hS.t0 ht, ht1⟩
theorem going_lean {S : Li} (s : Int) : ∀ p ∈ (going S s).es, tok (going S s).own p.2 (going S s).t < (going S s).own.m := fun p hp => by
  exact of_decide_eq_true (List.mem_filter.1 hp).2
theorem kept_lean {S : Li} (h : ∀ p ∈ S.es, tok S.own p.2 S.t < S.own.m) : kept S S.t = S.es := List.filter_eq_self.2 fun p hp => by simpa using h p hp
theorem going_same {S : Li} {s : Int} (h : ∀ p ∈ S.es, tok S.own p.2 S.t < S.own.m) (hs : ¬ (S.t + 1 ≤ s ∧ s ≤ top)) (h1 : S.t ≤ top) : going S s = S := by
  have ht : tickOf S s = S.t := by
    unfold tickOf
    split <;> omega
  unfold going
  rw [ht, kept_lean h]
theorem tick_is {S : Li} {s : Int} (hs : S.t + 1 ≤ s ∧ s ≤ top) : tickOf S s = s := if_pos ⟨by omega, hs.2⟩
/-- What the loop keeps. -/
def GJ (S : Li) (s : Int) (g bm r f0 : Nat) (w wr : World) (es : List (List UInt8 × Bu)) (left : Lit → Bool) (cnt : Nat) : Prop :=
  Rg wr bm r es left cnt ∧ wr.heap[g]? = some (.cells #[.int .i64 S.all.e, .int .i64 S.all.m, .int .i64 S.own.e, .int .i64 S.own.m, .int .i64 S.b.k, .int .i64 S.b.t, .map (some bm), .int .i64 s] 63 (0, 0)) ∧ wr.heap[f0]? = some (.cells #[.int .i64 S.own.m, .int .i64 s] 25 (0, 0)) ∧ Tu g bm w wr
theorem GJ.gr {S : Li} {s : Int} {g bm r f0 cnt : Nat} {w wr wx : World} {es : List (List UInt8 × Bu)} {left : Lit → Bool} (h : GJ S s g bm r f0 w wr es left cnt) (hb : Below wr.heap.size wr wx) : GJ S s g bm r f0 w wx es left cnt :=
  ⟨h.1.kept (hb.block _ h.1.map.lt) (hb.block _ h.1.lt.1), heap_below h.2.1 hb, heap_below h.2.2.1 hb, h.2.2.2.stepB hb h.2.2.2.size⟩
theorem goOn_same {S : Li} (g bm : Nat) (s : Int) (w : World) (h : LimAt w g bm S) (hs : ¬ (S.t + 1 ≤ s ∧ s ≤ 1099511627776)) :
    Calls Try.prog 32 #[.pointer (some ⟨g, 0, none⟩), .int .i64 s] w fun e w' => e = .returned (.tuple #[]) ∧ w = w' := by
  obtain ⟨k0, k1, k2, k3, k4, k5, k6, k7⟩ := cells8 h.row
  have h0 := h.ok.t0
  have h1 := h.ok.t1
  simp only [top] at h1
  have x1 : wrap64 (S.t + 1) = S.t + 1 := wrap64_in (by omega) (by omega)
  have HI := Lib.hid (fun w => isIn_any (b := false) s (S.t + 1) 1099511627776 w (decide_eq_false hs).symm)
  clear h hs h0 h1
  go_enter Try.func32, Try.ntmps32
  go_wp2_with fail
  refine (HI.out _).mono ?_
  rintro e w' ⟨rfl, rfl⟩
  go_wp2
  refine bodyPost_ret (v := .tuple #[]) (results_none rfl _ _ _) rfl ?_
  exact ⟨rfl, rfl⟩
set_option maxRecDepth 20000 in
set_option maxHeartbeats 4000000 in
theorem goOn_more {S : Li} (g bm : Nat) (s : Int) (w : World) (h : LimAt w g bm S) (hs : S.t + 1 ≤ s ∧ s ≤ 1099511627776) :
    Calls Try.prog 32 #[.pointer (some ⟨g, 0, none⟩), .int .i64 s] w fun e w' => e = .returned (.tuple #[]) ∧ (w'.heap[g]? = some (.cells #[.int .i64 S.all.e, .int .i64 S.all.m, .int .i64 S.own.e, .int .i64 S.own.m, .int .i64 S.b.k, .int .i64 S.b.t, .map (some bm), .int .i64 s] 63 (0, 0)) ∧ MapAt w' bm (kept S s)) ∧ Tu g bm w w' := by
  obtain ⟨k0, k1, k2, k3, k4, k5, k6, k7⟩ := cells8 h.row
  have f7 := frozen_of_row _ _ 7 _ _ h.row
  have h0 := h.ok.t0
  have h1 := h.ok.t1
  simp only [top] at h1
  have x1 : wrap64 (S.t + 1) = S.t + 1 := wrap64_in (by omega) (by omega)
  have HI := Lib.hid (fun w => isIn_any (b := true) s (S.t + 1) 1099511627776 w (decide_eq_true hs).symm)
  have HOK := Lib.hid h.ok
  have HS := Lib.hid hs
  have hne := h.ne
  have HNE := Lib.hid hne
  have HR1 : Hid ((w.setCell ⟨g, 7, none⟩ (.int .i64 s)).heap[g]? = some (.cells #[.int .i64 S.all.e, .int .i64 S.all.m, .int .i64 S.own.e, .int .i64 S.own.m, .int .i64 S.b.k, .int .i64 S.b.t, .map (some bm), .int .i64 s] 63 (0, 0))) := by
    have := heap_setCell_same w g 7 _ _ (.int .i64 s) h.row
    exact this
  have HM1 : Hid (MapAt (w.setCell ⟨g, 7, none⟩ (.int .i64 s)) bm S.es) := h.map.keep (Below.heap_setCell _ _ _ _ (Ne.symm hne))
  have HT1 : Hid (Tu g bm w (w.setCell ⟨g, 7, none⟩ (.int .i64 s))) := ⟨rfl, rfl, rfl, by simp [World.setCell], fun k _ hk _ => Below.heap_setCell _ _ _ _ hk⟩
  have FR := Lib.hid (fun w => fresh_any (S := ⟨S.all, S.own, S.b, S.es, s⟩) g bm w)
  clear h hs h0 h1 hne
  go_enter Try.func32, Try.ntmps32
  go_wp2_with fail
  refine (HI.out _).mono ?_
  rintro e w' ⟨rfl, rfl⟩
  go_wp2_with fail
  generalize w.setCell ⟨g, 7, none⟩ (.int .i64 s) = w1 at HR1 HM1 HT1 ⊢
  clear k0 k1 k2 k3 k4 k5 k6 k7 f7
  refine (FR.out w1 HR1.out).mono ?_
  rintro e w2 ⟨rfl, hb⟩
  have ha : Below w2.heap.size w2 (w2.alloc (.cells #[.int .i64 S.own.m, .int .i64 s] 25)) := (Below.refl _ _).alloc (Nat.le_refl _) _
  have HR3 : Hid ((w2.alloc (.cells #[.int .i64 S.own.m, .int .i64 s] 25)).heap[g]? = some (.cells #[.int .i64 S.all.e, .int .i64 S.all.m, .int .i64 S.own.e, .int .i64 S.own.m, .int .i64 S.b.k, .int .i64 S.b.t, .map (some bm), .int .i64 s] 63 (0, 0))) := heap_below (heap_below HR1.out hb) ha
  have HM3 : Hid (MapAt (w2.alloc (.cells #[.int .i64 S.own.m, .int .i64 s] 25)) bm S.es) := HM1.out.keep ((ha.block _ (Nat.lt_of_lt_of_le HM1.out.lt hb.size)).trans (hb.block _ HM1.out.lt))
  have HT3 : Hid (Tu g bm w (w2.alloc (.cells #[.int .i64 S.own.m, .int .i64 s] 25))) := (HT1.out.trans (Tu.gr hb)).trans (Tu.gr ha)
  have HF3 : Hid ((w2.alloc (.cells #[.int .i64 S.own.m, .int .i64 s] 25)).heap[w2.heap.size]? = some (.cells #[.int .i64 S.own.m, .int .i64 s] 25 (0, 0))) := heap_alloc_last _ _
  have hnw : w.heap.size ≤ w2.heap.size := Nat.le_trans HT1.out.size hb.size
  have hgl : g < w2.heap.size := Nat.lt_of_lt_of_le (Array.getElem?_eq_some_iff.1 HR1.out).1 hb.size
  have hbl : bm < w2.heap.size := Nat.lt_of_lt_of_le HM1.out.lt hb.size
  have HGL : Hid (g < w2.heap.size ∧ bm < w2.heap.size ∧ w.heap.size ≤ w2.heap.size) := ⟨hgl, hbl, hnw⟩
  clear ha hb HR1 HM1 HT1 hnw hgl hbl FR HI
  go_upto_region 3 with fail
  generalize w2.alloc (.cells #[.int .i64 S.own.m, .int .i64 s] 25) = w3 at HR3 HM3 HT3 HF3 ⊢
  obtain ⟨f0, hf0⟩ : ∃ f, f = w2.heap.size := ⟨_, rfl⟩
  rw [← hf0] at HF3 HGL ⊢
  clear hf0
  have HFL := Lib.hid (Array.getElem?_eq_some_iff.1 HF3.out).1
  obtain ⟨k0, k1, k2, k3, k4, k5, k6, k7⟩ := cells8 HR3.out
  have hMM := HM3.out
  go_wp2_with (first | (at_range; refine wpList_range_bk _ rfl _ rfl bm S.es rfl hMM ?_; intro w4 left0 hrg0 hle0 hg0 hs0) | go_in)
  go_frame
  have HR4 : Hid (w4.heap[g]? = some (.cells #[.int .i64 S.all.e, .int .i64 S.all.m, .int .i64 S.own.e, .int .i64 S.own.m, .int .i64 S.b.k, .int .i64 S.b.t, .map (some bm), .int .i64 s] 63 (0, 0))) := (hg0.block _ (Array.getElem?_eq_some_iff.1 HR3.out).1 (by simp)).trans HR3.out
  have HF4 : Hid (w4.heap[f0]? = some (.cells #[.int .i64 S.own.m, .int .i64 s] 25 (0, 0))) := (hg0.block _ HFL.out (by simp)).trans HF3.out
  have HT4 : Hid (Tu g bm w w4) := HT3.out.trans (Tu.grown hg0 (by simp))
  obtain ⟨r, hr⟩ : ∃ r, r = w3.heap.size := ⟨_, rfl⟩
  rw [← hr] at hrg0 HFL ⊢
  have HRL : Hid (w.heap.size ≤ r ∧ g < r ∧ bm < r ∧ f0 < r) := ⟨by have := HT3.out.size; omega, by have := HGL.out; have := HFL.out; omega, by have := HGL.out; have := HFL.out; omega, HFL.out⟩
  have HFB : Hid (f0 ≠ bm) := by show _ ≠ _; have := HGL.out; omega
  have HRG0 := Lib.hid hrg0
  have HLE0 := Lib.hid hle0
  have HKEEP : Hid (∀ q ∈ S.es, (decide (tok S.own q.2 s < S.own.m) = true ∨ tok S.own q.2 s = S.own.m) ∧ okAt S.own q.2 s) := by
    intro q hq
    have h1 := HOK.out.es q hq
    have h2 : q.2.t ≤ s := by have := h1.2; have := HS.out.1; omega
    have h3 := tok_range HOK.out.own h1.1 h2
    refine ⟨?_, HOK.out.own, h1.1, h2, HS.out.2⟩
    by_cases hlt : tok S.own q.2 s < S.own.m
    · exact .inl (decide_eq_true hlt)
    · exact .inr (by omega)
  clear k0 k1 k2 k3 k4 k5 k6 k7 hMM hrg0 hle0 hg0 hs0 hr HM3 HR3 HF3 HT3 HFL HGL
  go_loopw [28] (fun _ wr => ∃ (left : Lit → Bool) (cnt : Nat), GJ S s g bm r f0 w wr (cur S.es (fun p => decide (tok S.own p.2 s < S.own.m)) left) left cnt) (fun _ wr => wr.rangeLeft bm r)
  case atStart => exact ⟨left0, _, by rw [cur_start HLE0.out]; exact HRG0.out, HR4.out, HF4.out, HT4.out⟩
  case round =>
    clear HRG0 HLE0 HR4 HF4 HT4
    obtain ⟨left, cnt, hj⟩ := hrel
    have HJ := Lib.hid hj
    have hrg := hj.1
    clear hj
    go_wp2_with (first | (at_next; refine wpList_next_bk _ rfl _ rfl bm r _ _ _ rfl hrg ?_ ?_) | go_in)
    · intro _ hl0
      go_wp2
      go_end0
      refine ⟨rfl, ⟨HJ.out.2.1, ?_⟩, HJ.out.2.2.2⟩
      have := hrg.map
      rw [cur_end hl0] at this
      exact this
    · intro a0 a1 a2 a3 a4 a5 x y w5 cnt5 hmem hleft hrg5 hlt hg5 hs5 hen
      obtain ⟨hmem0, hmk⟩ := List.mem_filter.1 hmem
      have HEN := Lib.hid (HKEEP.out _ hmem0)
      have HMEM := Lib.hid hmem0
      have HLT : Hid (cnt5 < wr.rangeLeft bm r) := by show _ < _; rw [hrg.left_eq]; exact hlt
      have hd : ∀ i, i < wr.heap.size → i ≠ r → w5.heap[i]? = wr.heap[i]? := fun i hi hne => hg5.block i hi (fun e => hne (by simpa using e))
      have hgl : g < wr.heap.size := (Array.getElem?_eq_some_iff.1 HJ.out.2.1).1
      have HJ5 : Hid (GJ S s g bm r f0 w w5 (cur S.es (fun p => decide (tok S.own p.2 s < S.own.m)) left) (strike left [a0, a1, a2, a3, a4, a5]) cnt5) :=
        ⟨hrg5, (hd g hgl (by have := HRL.out; omega)).trans HJ.out.2.1, (hd f0 (Array.getElem?_eq_some_iff.1 HJ.out.2.2.1).1 (by have := HRL.out; omega)).trans HJ.out.2.2.1, HJ.out.2.2.2.step hg5 (fun k hk => .inl (by cases hk; exact HRL.out.1))⟩
      obtain ⟨T, hT⟩ : ∃ T, T = tok S.own ⟨x, y⟩ s := ⟨_, rfl⟩
      have HTT := Lib.hid hT
      have HAT : Hid (∀ w, Calls Try.prog 11 #[.agg #[.int .i64 S.own.e, .int .i64 S.own.m], .agg #[.int .i64 x, .int .i64 y], .int .i64 s] w fun e w' => e = .returned (.tuple #[.agg #[.int .i64 T, .int .i64 s], .int .i64 0]) ∧ Below w.heap.size w w') := fun w => by
        have h1 := at_any S.own.e S.own.m x y s w
        have h2 : atB ⟨S.own.e, S.own.m⟩ ⟨x, y⟩ s = ⟨tok S.own ⟨x, y⟩ s, s⟩ := if_pos HEN.out.2
        have h3 : atE ⟨S.own.e, S.own.m⟩ ⟨x, y⟩ s = 0 := if_pos HEN.out.2
        rw [h2, h3, ← HTT.out] at h1
        exact h1
      clear hmem hleft hrg5 hlt hg5 hs5 hmem0 hmk hd hgl hrg hT HJ
      have hb6 : Below w5.heap.size w5 ((w5.alloc (.cells #[.int .u8 (a0.toNat : Int), .int .u8 (a1.toNat : Int), .int .u8 (a2.toNat : Int), .int .u8 (a3.toNat : Int), .int .u8 (a4.toNat : Int), .int .u8 (a5.toNat : Int)] 49)).alloc (.cells #[.int .i64 x, .int .i64 y] 25)) := boxed_two _ _ _
      have HJ6 := Lib.hid (HJ5.out.gr hb6)
      have HK6 : Hid (((w5.alloc (.cells #[.int .u8 (a0.toNat : Int), .int .u8 (a1.toNat : Int), .int .u8 (a2.toNat : Int), .int .u8 (a3.toNat : Int), .int .u8 (a4.toNat : Int), .int .u8 (a5.toNat : Int)] 49)).alloc (.cells #[.int .i64 x, .int .i64 y] 25)).heap[w5.heap.size]? = some (.cells #[.int .u8 (a0.toNat : Int), .int .u8 (a1.toNat : Int), .int .u8 (a2.toNat : Int), .int .u8 (a3.toNat : Int), .int .u8 (a4.toNat : Int), .int .u8 (a5.toNat : Int)] 49 (0, 0))) := boxed_0 _ _ _
      have HX6 : Hid (((w5.alloc (.cells #[.int .u8 (a0.toNat : Int), .int .u8 (a1.toNat : Int), .int .u8 (a2.toNat : Int), .int .u8 (a3.toNat : Int), .int .u8 (a4.toNat : Int), .int .u8 (a5.toNat : Int)] 49)).alloc (.cells #[.int .i64 x, .int .i64 y] 25)).heap[w5.heap.size + 1]? = some (.cells #[.int .i64 x, .int .i64 y] 25 (0, 0))) := boxed_1 _ _ _
      clear hb6 HJ5
      go_upto_region 6 with fail
      clear hen
      generalize (w5.alloc (.cells #[.int .u8 (a0.toNat : Int), .int .u8 (a1.toNat : Int), .int .u8 (a2.toNat : Int), .int .u8 (a3.toNat : Int), .int .u8 (a4.toNat : Int), .int .u8 (a5.toNat : Int)] 49)).alloc (.cells #[.int .i64 x, .int .i64 y] 25) = w6 at HJ6 HK6 HX6 ⊢
      obtain ⟨h0, hh0⟩ : ∃ h, h = w5.heap.size := ⟨_, rfl⟩
      rw [← hh0] at HK6 HX6 ⊢
      clear hh0
      go_cut [7, 8] (fun s7 s8 wx => ∃ gq, s7 = .pointer (some ⟨gq, 0, none⟩) ∧ Hid (wx.heap[gq]? = some (.cells #[.int .i64 T, .int .i64 s] 25 (0, 0))) ∧ Hid (Gr w6 wx))
      case first =>
        have HC : Hid (Gr w6 w6.drew) := Gr.drew w6
        refine wp_region_G 13 (Below (w6.heap.size)) (by kernel_rfl) ?_
        generalize w6.drew = wc at HC ⊢
        -- 0: slot 34
        refine wpG_take (preBelow (w6.heap.size)) (i := 0) (v := ?_) (by kernel_rfl) (some 34) (by kernel_rfl) rfl (by kernel_rfl) (by kernel_rfl) (by kernel_rfl) (fun _ _ _ h => h) (by rfl) (fun w' hw' => ?_) rfl ?_
        rotate_left
        · try (have hq8 := cells8 (heap_below HJ6.out.2.1 (Below.trans HC.out hw')); obtain ⟨k0, k1, k2, k3, k4, k5, k6, k7⟩ := hq8)
          try (have hq8 := cells2 (heap_below HX6.out (Below.trans HC.out hw')); obtain ⟨m0, m1⟩ := hq8)
          go_simp
          with_reducible rfl
        simp only [Act.put, List.setIfInBounds_toArray, List.set_cons_zero, List.set_cons_succ]
        -- 1: slot 35
        refine wpG_take (preBelow (w6.heap.size)) (i := 1) (v := ?_) (by kernel_rfl) (some 35) (by kernel_rfl) rfl (by kernel_rfl) (by kernel_rfl) (by kernel_rfl) (fun _ _ _ h => h) (by rfl) (fun w' hw' => ?_) rfl ?_
        rotate_left
        · try (have hq8 := cells8 (heap_below HJ6.out.2.1 (Below.trans HC.out hw')); obtain ⟨k0, k1, k2, k3, k4, k5, k6, k7⟩ := hq8)
          try (have hq8 := cells2 (heap_below HX6.out (Below.trans HC.out hw')); obtain ⟨m0, m1⟩ := hq8)
          go_simp
          with_reducible rfl
        simp only [Act.put, List.setIfInBounds_toArray, List.set_cons_zero, List.set_cons_succ]
        -- 2: slot 36
        refine wpG_take (preBelow (w6.heap.size)) (i := 2) (v := ?_) (by kernel_rfl) (some 36) (by kernel_rfl) rfl (by kernel_rfl) (by kernel_rfl) (by kernel_rfl) (fun _ _ _ h => h) (by rfl) (fun w' hw' => ?_) rfl ?_
        rotate_left
        · try (have hq8 := cells8 (heap_below HJ6.out.2.1 (Below.trans HC.out hw')); obtain ⟨k0, k1, k2, k3, k4, k5, k6, k7⟩ := hq8)
          try (have hq8 := cells2 (heap_below HX6.out (Below.trans HC.out hw')); obtain ⟨m0, m1⟩ := hq8)
          go_simp
          with_reducible rfl
        simp only [Act.put, List.setIfInBounds_toArray, List.set_cons_zero, List.set_cons_succ]
        -- 3: slot 37
        refine wpG_take (preBelow (w6.heap.size)) (i := 3) (v := ?_) (by kernel_rfl) (some 37) (by kernel_rfl) rfl (by kernel_rfl) (by kernel_rfl) (by kernel_rfl) (fun _ _ _ h => h) (by rfl) (fun w' hw' => ?_) rfl ?_
        rotate_left
        · try (have hq8 := cells8 (heap_below HJ6.out.2.1 (Below.trans HC.out hw')); obtain ⟨k0, k1, k2, k3, k4, k5, k6, k7⟩ := hq8)
          try (have hq8 := cells2 (heap_below HX6.out (Below.trans HC.out hw')); obtain ⟨m0, m1⟩ := hq8)
          go_simp
          with_reducible rfl
        simp only [Act.put, List.setIfInBounds_toArray, List.set_cons_zero, List.set_cons_succ]
        -- 4: slot 38
        refine wpG_take (preBelow (w6.heap.size)) (i := 4) (v := ?_) (by kernel_rfl) (some 38) (by kernel_rfl) rfl (by kernel_rfl) (by kernel_rfl) (by kernel_rfl) (fun _ _ _ h => h) (by rfl) (fun w' hw' => ?_) rfl ?_
        rotate_left
        · try (have hq8 := cells8 (heap_below HJ6.out.2.1 (Below.trans HC.out hw')); obtain ⟨k0, k1, k2, k3, k4, k5, k6, k7⟩ := hq8)
          try (have hq8 := cells2 (heap_below HX6.out (Below.trans HC.out hw')); obtain ⟨m0, m1⟩ := hq8)
          go_simp
          with_reducible rfl
        simp only [Act.put, List.setIfInBounds_toArray, List.set_cons_zero, List.set_cons_succ]
        -- 5: slot 39
        refine wpG_take (preBelow (w6.heap.size)) (i := 5) (v := ?_) (by kernel_rfl) (some 39) (by kernel_rfl) rfl (by kernel_rfl) (by kernel_rfl) (by kernel_rfl) (fun _ _ _ h => h) (by rfl) (fun w' hw' => ?_) rfl ?_
        rotate_left
        · try (have hq8 := cells8 (heap_below HJ6.out.2.1 (Below.trans HC.out hw')); obtain ⟨k0, k1, k2, k3, k4, k5, k6, k7⟩ := hq8)
          try (have hq8 := cells2 (heap_below HX6.out (Below.trans HC.out hw')); obtain ⟨m0, m1⟩ := hq8)
          go_simp
          with_reducible rfl
        simp only [Act.put, List.setIfInBounds_toArray, List.set_cons_zero, List.set_cons_succ]
        refine wpG_two (i := 6) (j := 10) rfl rfl (by kernel_rfl) (by rfl) (by rfl) ?_ ?_
        · go_simp
          refine (HAT.out wc).mono ?_
          rintro e wn ⟨rfl, hb⟩
          refine ⟨hb.mono (Below.size HC.out), ?_⟩
          try (have HK' := Lib.hid (heap_below HK.out hb); clear HK; have HK := HK'; clear HK')
          have HC' : Hid (Gr w6 wn) := Below.trans HC.out (Below.mono hb (Below.size HC.out))
          clear HC hb
          have HC := HC'
          clear HC'
          obtain ⟨wc, hwc⟩ : ∃ x, x = wn := ⟨_, rfl⟩
          subst hwc
          try simp only [Act.put, List.setIfInBounds_toArray, List.set_cons_zero, List.set_cons_succ]
          -- 7: slot 33
          refine wpG_take (preBelow (w6.heap.size)) (i := 7) (v := ?_) (by kernel_rfl) (some 33) (by kernel_rfl) rfl (by kernel_rfl) (by kernel_rfl) (by kernel_rfl) (fun _ _ _ h => h) (by rfl) (fun w' hw' => ?_) rfl ?_
          rotate_left
          · try (have hq8 := cells8 (heap_below HJ6.out.2.1 (Below.trans HC.out hw')); obtain ⟨k0, k1, k2, k3, k4, k5, k6, k7⟩ := hq8)
            try (have hq8 := cells2 (heap_below HX6.out (Below.trans HC.out hw')); obtain ⟨m0, m1⟩ := hq8)
            go_simp
            with_reducible rfl
          simp only [Act.put, List.setIfInBounds_toArray, List.set_cons_zero, List.set_cons_succ]
          -- 8: slot 41
          refine wpG_take (preBelow (w6.heap.size)) (i := 8) (v := ?_) (by kernel_rfl) (some 41) (by kernel_rfl) rfl (by kernel_rfl) (by kernel_rfl) (by kernel_rfl) (fun _ _ _ h => h) (by rfl) (fun w' hw' => ?_) rfl ?_
          rotate_left
          · try (have hq8 := cells8 (heap_below HJ6.out.2.1 (Below.trans HC.out hw')); obtain ⟨k0, k1, k2, k3, k4, k5, k6, k7⟩ := hq8)
            try (have hq8 := cells2 (heap_below HX6.out (Below.trans HC.out hw')); obtain ⟨m0, m1⟩ := hq8)
            go_simp
            with_reducible rfl
          simp only [Act.put, List.setIfInBounds_toArray, List.set_cons_zero, List.set_cons_succ]
          -- 9: slot 42
          refine wpG_take (preBelow (w6.heap.size)) (i := 9) (v := ?_) (by kernel_rfl) (some 42) (by kernel_rfl) rfl (by kernel_rfl) (by kernel_rfl) (by kernel_rfl) (fun _ _ _ h => h) (by rfl) (fun w' hw' => ?_) rfl ?_
          rotate_left
          · try (have hq8 := cells8 (heap_below HJ6.out.2.1 (Below.trans HC.out hw')); obtain ⟨k0, k1, k2, k3, k4, k5, k6, k7⟩ := hq8)
            try (have hq8 := cells2 (heap_below HX6.out (Below.trans HC.out hw')); obtain ⟨m0, m1⟩ := hq8)
            go_simp
            with_reducible rfl
          simp only [Act.put, List.setIfInBounds_toArray, List.set_cons_zero, List.set_cons_succ]
          refine wpG_one (i := 10) rfl (by kernel_rfl) (by rfl) ?_
          go_simp
          have hb : Below wc.heap.size wc (wc.alloc (.cells #[.int .i64 0, .int .i64 0] 25)) := (Below.refl _ _).alloc (Nat.le_refl _) _
          refine ⟨hb.mono (Below.size HC.out), ?_⟩
          have hk : (wc.alloc (.cells #[.int .i64 0, .int .i64 0] 25)).heap[wc.heap.size]? = some (.cells #[.int .i64 0, .int .i64 0] 25 (0, 0)) := heap_alloc_last _ _
          have hgb : w6.heap.size ≤ wc.heap.size := Below.size HC.out
          generalize wc.alloc (.cells #[.int .i64 0, .int .i64 0] 25) = wn at hb hk ⊢
          have HC' : Hid (Gr w6 wn) := Below.trans HC.out (Below.mono hb (Below.size HC.out))
          clear HC
          have HC := HC'
          clear HC'
          obtain ⟨gk, hgk⟩ : ∃ g, g = wc.heap.size := ⟨_, rfl⟩
          rw [← hgk] at hk hgb ⊢
          have HK := Lib.hid hk
          have HGB := Lib.hid hgb
          clear hgk hb hk hgb
          obtain ⟨wc, hwc⟩ : ∃ x, x = wn := ⟨_, rfl⟩
          subst hwc
          try simp only [Act.put, List.setIfInBounds_toArray, List.set_cons_zero, List.set_cons_succ]
          refine wpG_one (i := 11) rfl (by kernel_rfl) (by rfl) ?_
          refine wp_store_whole (none) 25 (.tmp 7) (.tmp 41) rfl gk [.int .i64 T, .int .i64 s] rfl rfl 25 [.int .i64 0, .int .i64 0] HK.out (by kernel_rfl) rfl ?o1 rfl ?_
          case o1 => intro u hu; simp only [List.mem_cons, List.not_mem_nil, or_false] at hu; rcases hu with rfl | rfl <;> rfl
          intro wn h5 ho
          refine ⟨ho.below _ _ HGB.out (Below.refl _ _), ?_⟩
          have HE5 : Hid (wn.heap[gk]? = some (.cells #[.int .i64 T, .int .i64 s] 25 (0, 0))) := h5
          have HE6 : Hid (Gr w6 wn) := ho.below _ _ HGB.out HC.out
          clear h5 ho
          try simp only [Act.put, List.setIfInBounds_toArray, List.set_cons_zero, List.set_cons_succ]
          -- 12: slot 8
          refine wpG_take (preBelow (w6.heap.size)) (i := 12) (v := ?_) (by kernel_rfl) (some 8) (by kernel_rfl) rfl (by kernel_rfl) (by kernel_rfl) (by kernel_rfl) (fun _ _ _ h => h) (by rfl) (fun w' hw' => ?_) rfl ?_
          rotate_left
          · try (have hq8 := cells8 (heap_below HJ6.out.2.1 (Below.trans HC.out hw')); obtain ⟨k0, k1, k2, k3, k4, k5, k6, k7⟩ := hq8)
            try (have hq8 := cells2 (heap_below HX6.out (Below.trans HC.out hw')); obtain ⟨m0, m1⟩ := hq8)
            go_simp
            with_reducible rfl
          simp only [Act.put, List.setIfInBounds_toArray, List.set_cons_zero, List.set_cons_succ]
          refine wpG_done (by kernel_rfl) ?_ _
          go_wp2_with fail
          go_meet
          exact ⟨gk, rfl, HE5, HE6⟩
        · go_simp
          have hb : Below wc.heap.size wc (wc.alloc (.cells #[.int .i64 0, .int .i64 0] 25)) := (Below.refl _ _).alloc (Nat.le_refl _) _
          refine ⟨hb.mono (Below.size HC.out), ?_⟩
          have hk : (wc.alloc (.cells #[.int .i64 0, .int .i64 0] 25)).heap[wc.heap.size]? = some (.cells #[.int .i64 0, .int .i64 0] 25 (0, 0)) := heap_alloc_last _ _
          have hgb : w6.heap.size ≤ wc.heap.size := Below.size HC.out
          generalize wc.alloc (.cells #[.int .i64 0, .int .i64 0] 25) = wn at hb hk ⊢
          have HC' : Hid (Gr w6 wn) := Below.trans HC.out (Below.mono hb (Below.size HC.out))
          clear HC
          have HC := HC'
          clear HC'
          obtain ⟨gk, hgk⟩ : ∃ g, g = wc.heap.size := ⟨_, rfl⟩
          rw [← hgk] at hk hgb ⊢
          have HK := Lib.hid hk
          have HGB := Lib.hid hgb
          clear hgk hb hk hgb
          obtain ⟨wc, hwc⟩ : ∃ x, x = wn := ⟨_, rfl⟩
          subst hwc
          try simp only [Act.put, List.setIfInBounds_toArray, List.set_cons_zero, List.set_cons_succ]
          refine wpG_one (i := 6) rfl (by kernel_rfl) (by rfl) ?_
          go_simp
          refine (HAT.out wc).mono ?_
          rintro e wn ⟨rfl, hb⟩
          refine ⟨hb.mono (Below.size HC.out), ?_⟩
          try (have HK' := Lib.hid (heap_below HK.out hb); clear HK; have HK := HK'; clear HK')
          have HC' : Hid (Gr w6 wn) := Below.trans HC.out (Below.mono hb (Below.size HC.out))
          clear HC hb
          have HC := HC'
          clear HC'
          obtain ⟨wc, hwc⟩ : ∃ x, x = wn := ⟨_, rfl⟩
          subst hwc
          try simp only [Act.put, List.setIfInBounds_toArray, List.set_cons_zero, List.set_cons_succ]
          -- 7: slot 33
          refine wpG_take (preBelow (w6.heap.size)) (i := 7) (v := ?_) (by kernel_rfl) (some 33) (by kernel_rfl) rfl (by kernel_rfl) (by kernel_rfl) (by kernel_rfl) (fun _ _ _ h => h) (by rfl) (fun w' hw' => ?_) rfl ?_
          rotate_left
          · try (have hq8 := cells8 (heap_below HJ6.out.2.1 (Below.trans HC.out hw')); obtain ⟨k0, k1, k2, k3, k4, k5, k6, k7⟩ := hq8)
            try (have hq8 := cells2 (heap_below HX6.out (Below.trans HC.out hw')); obtain ⟨m0, m1⟩ := hq8)
            go_simp
            with_reducible rfl
          simp only [Act.put, List.setIfInBounds_toArray, List.set_cons_zero, List.set_cons_succ]
          -- 8: slot 41
          refine wpG_take (preBelow (w6.heap.size)) (i := 8) (v := ?_) (by kernel_rfl) (some 41) (by kernel_rfl) rfl (by kernel_rfl) (by kernel_rfl) (by kernel_rfl) (fun _ _ _ h => h) (by rfl) (fun w' hw' => ?_) rfl ?_
          rotate_left
          · try (have hq8 := cells8 (heap_below HJ6.out.2.1 (Below.trans HC.out hw')); obtain ⟨k0, k1, k2, k3, k4, k5, k6, k7⟩ := hq8)
            try (have hq8 := cells2 (heap_below HX6.out (Below.trans HC.out hw')); obtain ⟨m0, m1⟩ := hq8)
            go_simp
            with_reducible rfl
          simp only [Act.put, List.setIfInBounds_toArray, List.set_cons_zero, List.set_cons_succ]
          -- 9: slot 42
          refine wpG_take (preBelow (w6.heap.size)) (i := 9) (v := ?_) (by kernel_rfl) (some 42) (by kernel_rfl) rfl (by kernel_rfl) (by kernel_rfl) (by kernel_rfl) (fun _ _ _ h => h) (by rfl) (fun w' hw' => ?_) rfl ?_
          rotate_left
          · try (have hq8 := cells8 (heap_below HJ6.out.2.1 (Below.trans HC.out hw')); obtain ⟨k0, k1, k2, k3, k4, k5, k6, k7⟩ := hq8)
            try (have hq8 := cells2 (heap_below HX6.out (Below.trans HC.out hw')); obtain ⟨m0, m1⟩ := hq8)
            go_simp
            with_reducible rfl
          simp only [Act.put, List.setIfInBounds_toArray, List.set_cons_zero, List.set_cons_succ]
          refine wpG_one (i := 11) rfl (by kernel_rfl) (by rfl) ?_
          refine wp_store_whole (none) 25 (.tmp 7) (.tmp 41) rfl gk [.int .i64 T, .int .i64 s] rfl rfl 25 [.int .i64 0, .int .i64 0] HK.out (by kernel_rfl) rfl ?o1 rfl ?_
          case o1 => intro u hu; simp only [List.mem_cons, List.not_mem_nil, or_false] at hu; rcases hu with rfl | rfl <;> rfl
          intro wn h5 ho
          refine ⟨ho.below _ _ HGB.out (Below.refl _ _), ?_⟩
          have HE5 : Hid (wn.heap[gk]? = some (.cells #[.int .i64 T, .int .i64 s] 25 (0, 0))) := h5
          have HE6 : Hid (Gr w6 wn) := ho.below _ _ HGB.out HC.out
          clear h5 ho
          try simp only [Act.put, List.setIfInBounds_toArray, List.set_cons_zero, List.set_cons_succ]
          -- 12: slot 8
          refine wpG_take (preBelow (w6.heap.size)) (i := 12) (v := ?_) (by kernel_rfl) (some 8) (by kernel_rfl) rfl (by kernel_rfl) (by kernel_rfl) (by kernel_rfl) (fun _ _ _ h => h) (by rfl) (fun w' hw' => ?_) rfl ?_
          rotate_left
          · try (have hq8 := cells8 (heap_below HJ6.out.2.1 (Below.trans HC.out hw')); obtain ⟨k0, k1, k2, k3, k4, k5, k6, k7⟩ := hq8)
            try (have hq8 := cells2 (heap_below HX6.out (Below.trans HC.out hw')); obtain ⟨m0, m1⟩ := hq8)
            go_simp
            with_reducible rfl
          simp only [Act.put, List.setIfInBounds_toArray, List.set_cons_zero, List.set_cons_succ]
          refine wpG_done (by kernel_rfl) ?_ _
          go_wp2_with fail
          go_meet
          exact ⟨gk, rfl, HE5, HE6⟩
      case rest =>
        obtain ⟨gq, hs7, hq, hb⟩ := hcut
        subst hs7
        have HJ7 := Lib.hid (HJ6.out.gr hb.out)
        have HK7 := Lib.hid (heap_below HK6.out hb.out)
        have HE : ∀ w, (binOp .eql 25 (.agg #[.int .i64 T, .int .i64 s]) (.agg #[.int .i64 S.own.m, .int .i64 s])).run Try.prog w = .ok (.bool (T == S.own.m)) w := fun w => by rw [eql_bk]; simp
        obtain ⟨m0, m1⟩ := cells2 hq.out
        obtain ⟨q0, q1⟩ := cells2 HJ7.out.2.2.1
        clear hq hb HJ6 HK6 HX6 HAT
        by_cases hf : T = S.own.m
        · have hf' : (T == S.own.m) = true := by simpa using hf
          have HGONE : Hid (decide (tok S.own (⟨x, y⟩ : Bu) s < S.own.m) = false) := decide_eq_false (by rw [← HTT.out, hf]; omega)
          clear hf
          go_upto_region 8 with fail
          clear m0 m1 q0 q1 HE hf'
          have HC : Hid (Gr wc wc.drew) := Gr.drew wc
          refine wp_region_G 5 Gr (by kernel_rfl) ?_
          generalize wc.drew = wd at HC ⊢
          -- 0: slot 46
          refine wpG_take preGr (i := 0) (v := ?_) (by kernel_rfl) (some 46) (by kernel_rfl) rfl (by kernel_rfl) (by kernel_rfl) (by kernel_rfl) (fun _ _ _ h => h) (by rfl) (fun w' hw' => ?_) rfl ?_
          rotate_left
          · try (have hq8 := cells8 (heap_below HJ7.out.2.1 (Gr.trans HC.out hw')); obtain ⟨k0, k1, k2, k3, k4, k5, k6, k7⟩ := hq8)
            try (have hq8 := cells6 (heap_below HK7.out (Gr.trans HC.out hw')); obtain ⟨m0, m1, m2, m3, m4, m5⟩ := hq8)
            go_simp
            with_reducible rfl
          simp only [Act.put, List.setIfInBounds_toArray, List.set_cons_zero, List.set_cons_succ]
          -- 1: slot 47
          refine wpG_take preGr (i := 1) (v := ?_) (by kernel_rfl) (some 47) (by kernel_rfl) rfl (by kernel_rfl) (by kernel_rfl) (by kernel_rfl) (fun _ _ _ h => h) (by rfl) (fun w' hw' => ?_) rfl ?_
          rotate_left
          · try (have hq8 := cells8 (heap_below HJ7.out.2.1 (Gr.trans HC.out hw')); obtain ⟨k0, k1, k2, k3, k4, k5, k6, k7⟩ := hq8)
            try (have hq8 := cells6 (heap_below HK7.out (Gr.trans HC.out hw')); obtain ⟨m0, m1, m2, m3, m4, m5⟩ := hq8)
            go_simp
            with_reducible rfl
          simp only [Act.put, List.setIfInBounds_toArray, List.set_cons_zero, List.set_cons_succ]
          -- 2: slot 48
          refine wpG_take preGr (i := 2) (v := ?_) (by kernel_rfl) (some 48) (by kernel_rfl) rfl (by kernel_rfl) (by kernel_rfl) (by kernel_rfl) (fun _ _ _ h => h) (by rfl) (fun w' hw' => ?_) rfl ?_
          rotate_left
          · try (have hq8 := cells8 (heap_below HJ7.out.2.1 (Gr.trans HC.out hw')); obtain ⟨k0, k1, k2, k3, k4, k5, k6, k7⟩ := hq8)
            try (have hq8 := cells6 (heap_below HK7.out (Gr.trans HC.out hw')); obtain ⟨m0, m1, m2, m3, m4, m5⟩ := hq8)
            go_simp
            with_reducible rfl
          simp only [Act.put, List.setIfInBounds_toArray, List.set_cons_zero, List.set_cons_succ]
          -- 3: slot 49
          refine wpG_take preGr (i := 3) (v := ?_) (by kernel_rfl) (some 49) (by kernel_rfl) rfl (by kernel_rfl) (by kernel_rfl) (by kernel_rfl) (fun _ _ _ h => h) (by rfl) (fun w' hw' => ?_) rfl ?_
          rotate_left
          · try (have hq8 := cells8 (heap_below HJ7.out.2.1 (Gr.trans HC.out hw')); obtain ⟨k0, k1, k2, k3, k4, k5, k6, k7⟩ := hq8)
            try (have hq8 := cells6 (heap_below HK7.out (Gr.trans HC.out hw')); obtain ⟨m0, m1, m2, m3, m4, m5⟩ := hq8)
            go_simp
            with_reducible rfl
          simp only [Act.put, List.setIfInBounds_toArray, List.set_cons_zero, List.set_cons_succ]
          -- 4: slot 50
          refine wpG_take preGr (i := 4) (v := ?_) (by kernel_rfl) (some 50) (by kernel_rfl) rfl (by kernel_rfl) (by kernel_rfl) (by kernel_rfl) (fun _ _ _ h => h) (by rfl) (fun w' hw' => ?_) rfl ?_
          rotate_left
          · try (have hq8 := cells8 (heap_below HJ7.out.2.1 (Gr.trans HC.out hw')); obtain ⟨k0, k1, k2, k3, k4, k5, k6, k7⟩ := hq8)
            try (have hq8 := cells6 (heap_below HK7.out (Gr.trans HC.out hw')); obtain ⟨m0, m1, m2, m3, m4, m5⟩ := hq8)
            go_simp
            with_reducible rfl
          simp only [Act.put, List.setIfInBounds_toArray, List.set_cons_zero, List.set_cons_succ]
          refine wpG_tail (i := 5) (by decide) rfl (by kernel_rfl) (by rfl) ?_
          have hJd := HJ7.out.gr HC.out
          refine wp_delete_bk wd (none) (.tmp 49) (.tmp 50) rfl bm r _ _ _ rfl hJd.1 [a0, a1, a2, a3, a4, a5] rfl rfl rfl ?_
          intro w8 cnt8 hrg8 hle8 htu8
          rw [strike_self] at hrg8
          rw [cur_gone HOK.out.keys HMEM.out HGONE.out] at hrg8
          have hne : g ≠ bm := HNE.out
          have hrg : r ≠ bm := hrg8.lt.2
          have hgr := htu8.grown
          have HJ8 : Hid (GJ S s g bm r f0 w w8 (cur S.es (fun p => decide (tok S.own p.2 s < S.own.m)) (strike left [a0, a1, a2, a3, a4, a5])) (strike left [a0, a1, a2, a3, a4, a5]) cnt8) :=
            ⟨hrg8, (hgr.block _ (Array.getElem?_eq_some_iff.1 hJd.2.1).1 (by simpa using hne)).trans hJd.2.1, (hgr.block _ (Array.getElem?_eq_some_iff.1 hJd.2.2.1).1 (by have := HFB.out; simpa using this)).trans hJd.2.2.1, hJd.2.2.2.step hgr (fun k hk => .inr (.inr (by cases hk; rfl)))⟩
          have HLE8 := Lib.hid hle8
          clear hJd hrg8 hle8 htu8 hne hrg hgr
          try simp only [Act.put, List.setIfInBounds_toArray, List.set_cons_zero, List.set_cons_succ]
          refine wpG_done (by kernel_rfl) ?_ _
          go_wp2_with fail
          go_roundw
          case rel => exact ⟨_, cnt8, HJ8.out⟩
          case measure => rw [HJ8.out.1.left_eq]; have := HLT.out; have := HLE8.out; omega
        · have hf' : (T == S.own.m) = false := by simpa using hf
          have HSTAY : Hid (decide (tok S.own (⟨x, y⟩ : Bu) s < S.own.m) = true) := by
            rcases HEN.out.1 with h1 | h1
            · exact h1
            · exact absurd (HTT.out.trans h1) hf
          clear hf
          go_wp2_with fail
          go_roundw
          case rel => exact ⟨_, cnt5, by have := HJ7.out; rw [← cur_stays HOK.out.keys HMEM.out HSTAY.out] at this; exact this⟩
          case measure => rw [HJ7.out.1.left_eq]; exact HLT.out
end Go.Proofs.Ytblnglkjpnpmbaa.Bk
