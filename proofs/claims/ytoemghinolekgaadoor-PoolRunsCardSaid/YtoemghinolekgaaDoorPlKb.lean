/-
  The document's: Want, Give.
-/
import Derived.Test.YtoemghinolekgaaDoorPlK
namespace Go.Proofs.YtoemghinolekgaaDoor.Pl
open Go.RowKit
open Go.Proofs.YtoemghinolekgaaDoor.Id (Tr Tr.refl Tr.gr Tr.only blk own_blk IR IR.cells IR.shape IR.nil)
set_option linter.unusedVariables false
set_option linter.unusedSimpArgs false

theorem one_doc (b z : Int) (ar : Option Addr) (nr cr : Nat) (al : Option Addr) (nl cl : Nat) : ∀ v ∈ ([.int .i64 b, .int .i64 z, .slice ar nr cr, .slice al nl cl] : List Value), v.oneCell' = true := by
  intro u hu; simp only [List.mem_cons, List.not_mem_nil, or_false] at hu; rcases hu with rfl | rfl | rfl | rfl <;> rfl
section
variable {ops : Array Oper} {rest : List Oper} {op : Oper} {a : Act} {w : World} {Q : Exit → Act → World → Prop}
theorem wpList_store_doc (hgd : op.guard = none) (x y : Operand) (ho : op.op = .store 35 x y) (g : Nat) (b z : Int) (ar : Option Addr) (nr cr : Nat) (al : Option Addr) (nl cl : Nat) (hx : a.eval x = .pointer (some ⟨g, 0, none⟩)) (hy : a.eval y = .agg #[.int .i64 b, .int .i64 z, .slice ar nr cr, .slice al nl cl])
    (hg : w.heap[g]? = some (.cells #[.int .i64 0, .int .i64 0, .slice none 0 0, .slice none 0 0] 35 (0, 0)))
    (h : ∀ w', w'.heap[g]? = some (.cells #[.int .i64 b, .int .i64 z, .slice ar nr cr, .slice al nl cl] 35 (0, 0)) → Only g w w' → wpList Tryd.prog ops Q rest (a.put op.dst undef) w') : wpList Tryd.prog ops Q (op :: rest) a w :=
  wpList_store_whole hgd 35 x y ho g [.int .i64 b, .int .i64 z, .slice ar nr cr, .slice al nl cl] hx hy 35 [.int .i64 0, .int .i64 0, .slice none 0 0, .slice none 0 0] hg sizeDT rfl (one_doc b z ar nr cr al nl cl) h
theorem wpList_store_led (hgd : op.guard = none) (x y : Operand) (ho : op.op = .store 22 x y) (g : Nat) (A : Option Addr) (n C : Nat) (hx : a.eval x = .pointer (some ⟨g, 3, none⟩)) (hy : a.eval y = .slice A n C)
    (c0 c1 c2 c3 : Value) (hg : w.heap[g]? = some (.cells #[c0, c1, c2, c3] 35 (0, 0)))
    (h : ∀ w', w'.heap[g]? = some (.cells #[c0, c1, c2, .slice A n C] 35 (0, 0)) → Only g w w' → wpList Tryd.prog ops Q rest (a.put op.dst undef) w') : wpList Tryd.prog ops Q (op :: rest) a w :=
  wpList_store_cell hgd 22 x y ho g 3 (.slice A n C) hx hy 35 [c0, c1, c2, c3] hg sizeSI (by simp) rfl h
end
/-- What a call of the document's hands on. -/
def DGo (w : World) (S T : Po) (rv lv : Value) (v : Value) (w' : World) : Prop := ∃ lv', v = DV T rv lv' ∧ (∀ base, base ≤ w.heap.size → w.ownsRow base 3 1 lv S.L.length (ints S.L) → w'.ownsRow base 3 1 lv' T.L.length (ints T.L)) ∧ Below w.heap.size w w'
set_option maxRecDepth 20000 in
set_option maxHeartbeats 4000000 in
theorem dwant_any (a : Int) (ha : a ≤ 9223372036854775807) {S : Po} {rv lv : Value} (w : World) (ok : OkP S) (h : DR w S rv lv) :
    Calls Tryd.prog 20 #[DV S rv lv, .int .i64 a] w fun e w' => ∃ v, e = .returned (.tuple #[v, .int .i64 (want S a).2]) ∧ DGo w S (want S a).1 rv lv v w' := by
  obtain ⟨ar, cr, rfl, _, _⟩ := h.r.shape
  obtain ⟨al, cl, rfl, _, _⟩ := h.l.shape
  have HH := Lib.hid h
  have HOK := Lib.hid ok
  have hp := parts ok
  have hZ := ok.r.size
  obtain ⟨nr, hnr⟩ : ∃ n, n = S.res.length := ⟨_, rfl⟩
  obtain ⟨nl, hnl⟩ : ∃ n, n = S.L.length := ⟨_, rfl⟩
  have HNR := Lib.hid hnr
  have HNL := Lib.hid hnl
  rw [← hnr, ← hnl] at HH hp ⊢
  have HB2 : Hid (Below w.heap.size w ((w.alloc (.cells #[.int .i64 S.base, .int .i64 (S.size : Int), .slice ar nr cr, .slice al nl cl] 35)).alloc (.cells #[.int .i64 0, .int .i64 0, .slice none 0 0, .slice none 0 0] 35))) := ((Below.refl _ _).alloc (Nat.le_refl _) _).alloc (by simp) _
  have HP2 : Hid (((w.alloc (.cells #[.int .i64 S.base, .int .i64 (S.size : Int), .slice ar nr cr, .slice al nl cl] 35)).alloc (.cells #[.int .i64 0, .int .i64 0, .slice none 0 0, .slice none 0 0] 35)).heap[w.heap.size]? = some (.cells #[.int .i64 S.base, .int .i64 (S.size : Int), .slice ar nr cr, .slice al nl cl] 35 (0, 0))) := heap2_0' _ _ _
  have HZ2 : Hid (((w.alloc (.cells #[.int .i64 S.base, .int .i64 (S.size : Int), .slice ar nr cr, .slice al nl cl] 35)).alloc (.cells #[.int .i64 0, .int .i64 0, .slice none 0 0, .slice none 0 0] 35)).heap[w.heap.size + 1]? = some (.cells #[.int .i64 0, .int .i64 0, .slice none 0 0, .slice none 0 0] 35 (0, 0))) := heap2_1' _ _ _
  have HHAS : Hid (Calls Tryd.prog 27 #[.agg #[.int .i64 S.base, .int .i64 (S.size : Int), .slice ar nr cr, .slice al nl cl], .int .i64 a] ((w.alloc (.cells #[.int .i64 S.base, .int .i64 (S.size : Int), .slice ar nr cr, .slice al nl cl] 35)).alloc (.cells #[.int .i64 0, .int .i64 0, .slice none 0 0, .slice none 0 0] 35)) fun e w' => e = .returned (.bool (has S a)) ∧ Below ((w.alloc (.cells #[.int .i64 S.base, .int .i64 (S.size : Int), .slice ar nr cr, .slice al nl cl] 35)).alloc (.cells #[.int .i64 0, .int .i64 0, .slice none 0 0, .slice none 0 0] 35)).heap.size ((w.alloc (.cells #[.int .i64 S.base, .int .i64 (S.size : Int), .slice ar nr cr, .slice al nl cl] 35)).alloc (.cells #[.int .i64 0, .int .i64 0, .slice none 0 0, .slice none 0 0] 35)) w') := by
    have := dhas_any a ha ((w.alloc (.cells #[.int .i64 S.base, .int .i64 (S.size : Int), .slice ar nr cr, .slice al nl cl] 35)).alloc (.cells #[.int .i64 0, .int .i64 0, .slice none 0 0, .slice none 0 0] 35)) ok (HH.out.gr HB2.out)
    exact this
  have HLL : Hid (nl ≤ 65536) := by show _ ≤ _; omega
  rw [show DV S (.slice ar nr cr) (.slice al nl cl) = .agg #[.int .i64 S.base, .int .i64 (S.size : Int), .slice ar nr cr, .slice al nl cl] from rfl]
  clear h ok hp hZ hnr hnl
  unfold want
  by_cases hh : has S a = true
  · rw [if_pos hh]
    rw [hh] at HHAS
    by_cases hl : a ∈ S.L
    · rw [if_pos hl]
      have HL := Lib.hid hl
      clear hh hl
      go_enter Tryd.func20, Tryd.ntmps20
      go_wp2_with fail
      refine HHAS.out.mono ?_
      rintro e w1 ⟨rfl, hb⟩
      have HBW : Hid (Below w.heap.size w w1) := HB2.out.trans (Below.mono hb HB2.out.size)
      have HP := Lib.hid (heap_gr hb HP2.out)
      have HZ := Lib.hid (heap_gr hb HZ2.out)
      obtain ⟨k0, k1, k2, k3⟩ := cells4' HP.out
      clear hb HP2 HZ2 HHAS
      have HI := in_any a w1 (HH.out.gr HBW.out).l
      rw [decide_eq_true HL.out] at HI
      have HIN := Lib.hid HI
      clear HI
      go_wp2_with fail
      refine HIN.out.mono ?_
      rintro e w' ⟨rfl, rfl⟩
      go_wp2_with (with_reducible refine wpList_store_doc rfl _ _ rfl (w.heap.size + 1) _ _ _ _ _ _ _ _ rfl rfl HZ.out ?_)
      intro w2 h3 ho3
      have H3 := Lib.hid h3
      have HBN : Hid (Below w.heap.size w w2) := ho3.below _ _ (by omega) HBW.out
      have HKE : Hid (∀ k, k < w.heap.size → w2.heap[k]? = w.heap[k]?) := fun k hk => (ho3.heap k (by have := HBW.out.size; omega) (by omega)).trans (HBW.out.block k hk)
      clear h3 ho3 k0 k1 k2 k3
      go_wp2
      refine bodyPost_ret (results_cell_tmp_row (P := Tryd.prog) (fn := Tryd.f20) rfl _ _ (w.heap.size + 1) 35 _ (0, 0) _ rfl H3.out Tryd.underlying35 rfl sizeDT) rfl ?_
      refine ⟨_, rfl, .slice al nl cl, by unfold DV; rfl, fun base hbase ho => ?_, HBN.out⟩
      exact own_keep ho fun k hk => HKE.out k (own_blk ho k hk).2
    · rw [if_neg hl]
      have HL := Lib.hid hl
      clear hh hl
      go_enter Tryd.func20, Tryd.ntmps20
      go_wp2_with fail
      refine HHAS.out.mono ?_
      rintro e w1 ⟨rfl, hb⟩
      have HBW : Hid (Below w.heap.size w w1) := HB2.out.trans (Below.mono hb HB2.out.size)
      have HP := Lib.hid (heap_gr hb HP2.out)
      have HZ := Lib.hid (heap_gr hb HZ2.out)
      obtain ⟨k0, k1, k2, k3⟩ := cells4' HP.out
      clear hb HP2 HZ2 HHAS
      have HI := in_any a w1 (HH.out.gr HBW.out).l
      rw [decide_eq_false HL.out] at HI
      have HIN := Lib.hid HI
      clear HI
      go_wp2_with fail
      refine HIN.out.mono ?_
      rintro e w' ⟨rfl, rfl⟩
      have hc := with_any a w1 (HH.out.gr HBW.out).l (by rw [← HNL.out]; exact HLL.out) HL.out
      have HC := Lib.hid hc
      clear hc
      go_wp2_with fail
      refine HC.out.mono ?_
      rintro e w2 ⟨v2, rfl, ho2, hb2⟩
      obtain ⟨A2, C2, rfl, _, _⟩ := (own_rd ho2).shape
      obtain ⟨n2, hn2⟩ : ∃ n, n = (Id.put a S.L).length := ⟨_, rfl⟩
      have HN2 := Lib.hid hn2
      rw [← hn2] at ho2 ⊢
      have HO2 := Lib.hid ho2
      have HP3 := Lib.hid (heap_gr hb2 HP.out)
      have HZ3 := Lib.hid (heap_gr hb2 HZ.out)
      have HS3 : Hid (w.heap.size + 1 < w1.heap.size) := (Array.getElem?_eq_some_iff.1 HZ.out).1
      have HBX : Hid (Below w.heap.size w w2) := HBW.out.trans (Below.mono hb2 HBW.out.size)
      clear ho2 hb2 hn2 HC HP HZ k0 k1 k2 k3
      go_wp2_with (with_reducible refine wpList_store_led rfl _ _ rfl w.heap.size _ _ _ rfl rfl _ _ _ _ HP3.out ?_)
      intro w3 h3 ho3
      have hp4 : w3.heap[w.heap.size]? = some (.cells #[.int .i64 S.base, .int .i64 (S.size : Int), .slice ar nr cr, .slice A2 n2 C2] 35 (0, 0)) := h3
      have HZ4 : Hid (w3.heap[w.heap.size + 1]? = some (.cells #[.int .i64 0, .int .i64 0, .slice none 0 0, .slice none 0 0] 35 (0, 0))) := (ho3.heap _ (Array.getElem?_eq_some_iff.1 HZ3.out).1 (by omega)).trans HZ3.out
      have HBY : Hid (Below w.heap.size w w3) := ho3.below _ _ (Nat.le_refl _) HBX.out
      have HO3 : Hid (w3.ownsRow w1.heap.size 3 1 (.slice A2 n2 C2) n2 (ints (Id.put a S.L))) := ownsRow_only HO2.out ho3 (by have := HS3.out; omega)
      obtain ⟨k0, k1, k2, k3⟩ := cells4' hp4
      clear h3 ho3 hp4 HP3 HZ3 HO2
      go_wp2_with (with_reducible refine wpList_store_doc rfl _ _ rfl (w.heap.size + 1) _ _ _ _ _ _ _ _ rfl rfl HZ4.out ?_)
      intro w4 h5 ho5
      have H5 := Lib.hid h5
      have HBN : Hid (Below w.heap.size w w4) := ho5.below _ _ (by omega) HBY.out
      have HO5 := Lib.hid (ownsRow_only HO3.out ho5 HS3.out)
      clear h5 ho5 k0 k1 k2 k3
      go_wp2
      refine bodyPost_ret (results_cell_tmp_row (P := Tryd.prog) (fn := Tryd.f20) rfl _ _ (w.heap.size + 1) 35 _ (0, 0) _ rfl H5.out Tryd.underlying35 rfl sizeDT) rfl ?_
      refine ⟨_, rfl, .slice A2 n2 C2, rfl, fun base hbase ho => ?_, HBN.out⟩
      show World.ownsRow _ _ _ _ _ (Id.put a S.L).length _
      rw [← HN2.out]
      exact ownsRow_mono HO5.out (by have := HS3.out; omega)
  · rw [if_neg hh]
    simp only [Bool.not_eq_true] at hh
    rw [hh] at HHAS
    clear hh
    go_enter Tryd.func20, Tryd.ntmps20
    go_wp2_with fail
    refine HHAS.out.mono ?_
    rintro e w1 ⟨rfl, hb⟩
    have HBW : Hid (Below w.heap.size w w1) := HB2.out.trans (Below.mono hb HB2.out.size)
    have HP := Lib.hid (heap_gr hb HP2.out)
    have HZ := Lib.hid (heap_gr hb HZ2.out)
    obtain ⟨k0, k1, k2, k3⟩ := cells4' HP.out
    clear hb HP2 HZ2 HHAS
    go_wp2_with (with_reducible refine wpList_store_doc rfl _ _ rfl (w.heap.size + 1) _ _ _ _ _ _ _ _ rfl rfl HZ.out ?_)
    intro w2 h3 ho3
    have H3 := Lib.hid h3
    have HBN : Hid (Below w.heap.size w w2) := ho3.below _ _ (by omega) HBW.out
    have HKE : Hid (∀ k, k < w.heap.size → w2.heap[k]? = w.heap[k]?) := fun k hk => (ho3.heap k (by have := HBW.out.size; omega) (by omega)).trans (HBW.out.block k hk)
    clear h3 ho3 k0 k1 k2 k3
    go_wp2
    refine bodyPost_ret (results_cell_tmp_row (P := Tryd.prog) (fn := Tryd.f20) rfl _ _ (w.heap.size + 1) 35 _ (0, 0) _ rfl H3.out Tryd.underlying35 rfl sizeDT) rfl ?_
    refine ⟨_, rfl, .slice al nl cl, by unfold DV; rfl, fun base hbase ho => ?_, HBN.out⟩
    exact own_keep ho fun k hk => HKE.out k (own_blk ho k hk).2
set_option maxRecDepth 20000 in
set_option maxHeartbeats 4000000 in
theorem dgive_any (a : Int) (ha : a ≤ 9223372036854775807) {S : Po} {rv lv : Value} (w : World) (ok : OkP S) (h : DR w S rv lv) :
    Calls Tryd.prog 18 #[DV S rv lv, .int .i64 a] w fun e w' => ∃ v, e = .returned (.tuple #[v, .int .i64 (give S a).2]) ∧ DGo w S (give S a).1 rv lv v w' := by
  obtain ⟨ar, cr, rfl, _, _⟩ := h.r.shape
  obtain ⟨al, cl, rfl, _, _⟩ := h.l.shape
  have HH := Lib.hid h
  have HOK := Lib.hid ok
  have hp := parts ok
  have hZ := ok.r.size
  obtain ⟨nr, hnr⟩ : ∃ n, n = S.res.length := ⟨_, rfl⟩
  obtain ⟨nl, hnl⟩ : ∃ n, n = S.L.length := ⟨_, rfl⟩
  have HNR := Lib.hid hnr
  have HNL := Lib.hid hnl
  rw [← hnr, ← hnl] at HH hp ⊢
  have HB2 : Hid (Below w.heap.size w ((w.alloc (.cells #[.int .i64 S.base, .int .i64 (S.size : Int), .slice ar nr cr, .slice al nl cl] 35)).alloc (.cells #[.int .i64 0, .int .i64 0, .slice none 0 0, .slice none 0 0] 35))) := ((Below.refl _ _).alloc (Nat.le_refl _) _).alloc (by simp) _
  have HP2 : Hid (((w.alloc (.cells #[.int .i64 S.base, .int .i64 (S.size : Int), .slice ar nr cr, .slice al nl cl] 35)).alloc (.cells #[.int .i64 0, .int .i64 0, .slice none 0 0, .slice none 0 0] 35)).heap[w.heap.size]? = some (.cells #[.int .i64 S.base, .int .i64 (S.size : Int), .slice ar nr cr, .slice al nl cl] 35 (0, 0))) := heap2_0' _ _ _
  have HZ2 : Hid (((w.alloc (.cells #[.int .i64 S.base, .int .i64 (S.size : Int), .slice ar nr cr, .slice al nl cl] 35)).alloc (.cells #[.int .i64 0, .int .i64 0, .slice none 0 0, .slice none 0 0] 35)).heap[w.heap.size + 1]? = some (.cells #[.int .i64 0, .int .i64 0, .slice none 0 0, .slice none 0 0] 35 (0, 0))) := heap2_1' _ _ _
  have HHAS : Hid (Calls Tryd.prog 27 #[.agg #[.int .i64 S.base, .int .i64 (S.size : Int), .slice ar nr cr, .slice al nl cl], .int .i64 a] ((w.alloc (.cells #[.int .i64 S.base, .int .i64 (S.size : Int), .slice ar nr cr, .slice al nl cl] 35)).alloc (.cells #[.int .i64 0, .int .i64 0, .slice none 0 0, .slice none 0 0] 35)) fun e w' => e = .returned (.bool (has S a)) ∧ Below ((w.alloc (.cells #[.int .i64 S.base, .int .i64 (S.size : Int), .slice ar nr cr, .slice al nl cl] 35)).alloc (.cells #[.int .i64 0, .int .i64 0, .slice none 0 0, .slice none 0 0] 35)).heap.size ((w.alloc (.cells #[.int .i64 S.base, .int .i64 (S.size : Int), .slice ar nr cr, .slice al nl cl] 35)).alloc (.cells #[.int .i64 0, .int .i64 0, .slice none 0 0, .slice none 0 0] 35)) w') := by
    have := dhas_any a ha ((w.alloc (.cells #[.int .i64 S.base, .int .i64 (S.size : Int), .slice ar nr cr, .slice al nl cl] 35)).alloc (.cells #[.int .i64 0, .int .i64 0, .slice none 0 0, .slice none 0 0] 35)) ok (HH.out.gr HB2.out)
    exact this
  have HLL : Hid (nl ≤ 65536) := by show _ ≤ _; omega
  rw [show DV S (.slice ar nr cr) (.slice al nl cl) = .agg #[.int .i64 S.base, .int .i64 (S.size : Int), .slice ar nr cr, .slice al nl cl] from rfl]
  clear h ok hp hZ hnr hnl
  unfold give
  by_cases hh : has S a = true
  · rw [if_pos hh]
    rw [hh] at HHAS
    by_cases hl : a ∈ S.L
    · rw [if_pos hl]
      have HL := Lib.hid hl
      clear hh hl
      go_enter Tryd.func18, Tryd.ntmps18
      go_wp2_with fail
      refine HHAS.out.mono ?_
      rintro e w1 ⟨rfl, hb⟩
      have HBW : Hid (Below w.heap.size w w1) := HB2.out.trans (Below.mono hb HB2.out.size)
      have HP := Lib.hid (heap_gr hb HP2.out)
      have HZ := Lib.hid (heap_gr hb HZ2.out)
      obtain ⟨k0, k1, k2, k3⟩ := cells4' HP.out
      clear hb HP2 HZ2 HHAS
      have HI := in_any a w1 (HH.out.gr HBW.out).l
      rw [decide_eq_true HL.out] at HI
      have HIN := Lib.hid HI
      clear HI
      go_wp2_with fail
      refine HIN.out.mono ?_
      rintro e w' ⟨rfl, rfl⟩
      have hc := without_any a w1 (HH.out.gr HBW.out).l (by rw [← HNL.out]; exact HLL.out)
      have HC := Lib.hid hc
      clear hc
      go_wp2_with fail
      refine HC.out.mono ?_
      rintro e w2 ⟨v2, rfl, ho2, hb2⟩
      obtain ⟨A2, C2, rfl, _, _⟩ := (own_rd ho2).shape
      obtain ⟨n2, hn2⟩ : ∃ n, n = (strike a S.L).length := ⟨_, rfl⟩
      have HN2 := Lib.hid hn2
      rw [← hn2] at ho2 ⊢
      have HO2 := Lib.hid ho2
      have HP3 := Lib.hid (heap_gr hb2 HP.out)
      have HZ3 := Lib.hid (heap_gr hb2 HZ.out)
      have HS3 : Hid (w.heap.size + 1 < w1.heap.size) := (Array.getElem?_eq_some_iff.1 HZ.out).1
      have HBX : Hid (Below w.heap.size w w2) := HBW.out.trans (Below.mono hb2 HBW.out.size)
      clear ho2 hb2 hn2 HC HP HZ k0 k1 k2 k3
      go_wp2_with (with_reducible refine wpList_store_led rfl _ _ rfl w.heap.size _ _ _ rfl rfl _ _ _ _ HP3.out ?_)
      intro w3 h3 ho3
      have hp4 : w3.heap[w.heap.size]? = some (.cells #[.int .i64 S.base, .int .i64 (S.size : Int), .slice ar nr cr, .slice A2 n2 C2] 35 (0, 0)) := h3
      have HZ4 : Hid (w3.heap[w.heap.size + 1]? = some (.cells #[.int .i64 0, .int .i64 0, .slice none 0 0, .slice none 0 0] 35 (0, 0))) := (ho3.heap _ (Array.getElem?_eq_some_iff.1 HZ3.out).1 (by omega)).trans HZ3.out
      have HBY : Hid (Below w.heap.size w w3) := ho3.below _ _ (Nat.le_refl _) HBX.out
      have HO3 : Hid (w3.ownsRow w1.heap.size 3 1 (.slice A2 n2 C2) n2 (ints (strike a S.L))) := ownsRow_only HO2.out ho3 (by have := HS3.out; omega)
      obtain ⟨k0, k1, k2, k3⟩ := cells4' hp4
      clear h3 ho3 hp4 HP3 HZ3 HO2
      go_wp2_with (with_reducible refine wpList_store_doc rfl _ _ rfl (w.heap.size + 1) _ _ _ _ _ _ _ _ rfl rfl HZ4.out ?_)
      intro w4 h5 ho5
      have H5 := Lib.hid h5
      have HBN : Hid (Below w.heap.size w w4) := ho5.below _ _ (by omega) HBY.out
      have HO5 := Lib.hid (ownsRow_only HO3.out ho5 HS3.out)
      clear h5 ho5 k0 k1 k2 k3
      go_wp2
      refine bodyPost_ret (results_cell_tmp_row (P := Tryd.prog) (fn := Tryd.f18) rfl _ _ (w.heap.size + 1) 35 _ (0, 0) _ rfl H5.out Tryd.underlying35 rfl sizeDT) rfl ?_
      refine ⟨_, rfl, .slice A2 n2 C2, rfl, fun base hbase ho => ?_, HBN.out⟩
      show World.ownsRow _ _ _ _ _ (strike a S.L).length _
      rw [← HN2.out]
      exact ownsRow_mono HO5.out (by have := HS3.out; omega)
    · rw [if_neg hl]
      have HL := Lib.hid hl
      clear hh hl
      go_enter Tryd.func18, Tryd.ntmps18
      go_wp2_with fail
      refine HHAS.out.mono ?_
      rintro e w1 ⟨rfl, hb⟩
      have HBW : Hid (Below w.heap.size w w1) := HB2.out.trans (Below.mono hb HB2.out.size)
      have HP := Lib.hid (heap_gr hb HP2.out)
      have HZ := Lib.hid (heap_gr hb HZ2.out)
      obtain ⟨k0, k1, k2, k3⟩ := cells4' HP.out
      clear hb HP2 HZ2 HHAS
      have HI := in_any a w1 (HH.out.gr HBW.out).l
      rw [decide_eq_false HL.out] at HI
      have HIN := Lib.hid HI
      clear HI
      go_wp2_with fail
      refine HIN.out.mono ?_
      rintro e w' ⟨rfl, rfl⟩
      go_wp2_with (with_reducible refine wpList_store_doc rfl _ _ rfl (w.heap.size + 1) _ _ _ _ _ _ _ _ rfl rfl HZ.out ?_)
      intro w2 h3 ho3
      have H3 := Lib.hid h3
      have HBN : Hid (Below w.heap.size w w2) := ho3.below _ _ (by omega) HBW.out
      have HKE : Hid (∀ k, k < w.heap.size → w2.heap[k]? = w.heap[k]?) := fun k hk => (ho3.heap k (by have := HBW.out.size; omega) (by omega)).trans (HBW.out.block k hk)
      clear h3 ho3 k0 k1 k2 k3
      go_wp2
      refine bodyPost_ret (results_cell_tmp_row (P := Tryd.prog) (fn := Tryd.f18) rfl _ _ (w.heap.size + 1) 35 _ (0, 0) _ rfl H3.out Tryd.underlying35 rfl sizeDT) rfl ?_
      refine ⟨_, rfl, .slice al nl cl, by unfold DV; rfl, fun base hbase ho => ?_, HBN.out⟩
      exact own_keep ho fun k hk => HKE.out k (own_blk ho k hk).2
  · rw [if_neg hh]
    simp only [Bool.not_eq_true] at hh
    rw [hh] at HHAS
    clear hh
    go_enter Tryd.func18, Tryd.ntmps18
    go_wp2_with fail
    refine HHAS.out.mono ?_
    rintro e w1 ⟨rfl, hb⟩
    have HBW : Hid (Below w.heap.size w w1) := HB2.out.trans (Below.mono hb HB2.out.size)
    have HP := Lib.hid (heap_gr hb HP2.out)
    have HZ := Lib.hid (heap_gr hb HZ2.out)
    obtain ⟨k0, k1, k2, k3⟩ := cells4' HP.out
    clear hb HP2 HZ2 HHAS
    go_wp2_with (with_reducible refine wpList_store_doc rfl _ _ rfl (w.heap.size + 1) _ _ _ _ _ _ _ _ rfl rfl HZ.out ?_)
    intro w2 h3 ho3
    have H3 := Lib.hid h3
    have HBN : Hid (Below w.heap.size w w2) := ho3.below _ _ (by omega) HBW.out
    have HKE : Hid (∀ k, k < w.heap.size → w2.heap[k]? = w.heap[k]?) := fun k hk => (ho3.heap k (by have := HBW.out.size; omega) (by omega)).trans (HBW.out.block k hk)
    clear h3 ho3 k0 k1 k2 k3
    go_wp2
    refine bodyPost_ret (results_cell_tmp_row (P := Tryd.prog) (fn := Tryd.f18) rfl _ _ (w.heap.size + 1) 35 _ (0, 0) _ rfl H3.out Tryd.underlying35 rfl sizeDT) rfl ?_
    refine ⟨_, rfl, .slice al nl cl, by unfold DV; rfl, fun base hbase ho => ?_, HBN.out⟩
    exact own_keep ho fun k hk => HKE.out k (own_blk ho k hk).2
end Go.Proofs.YtoemghinolekgaaDoor.Pl
