/-
  The laws' small.
-/
import Derived.Test.YtoemghinolekgaaDoorPlT
import Derived.Test.YtoemghinolekgaaDoorPlK
namespace Go.Proofs.YtoemghinolekgaaDoor.Pl
open Go.RowKit
open Go.Proofs.YtoemghinolekgaaDoor.Id (Tr Tr.refl Tr.gr Tr.only Tr.below blk own_blk IR IR.cells IR.shape)
set_option linter.unusedVariables false
set_option linter.unusedSimpArgs false

theorem sizeRT : (Tryd.prog.info? 24).map (·.size) = some 3 := by kernel_rfl
theorem sizeIT : (Tryd.prog.info? 3).map (·.size) = some 1 := by kernel_rfl
theorem one_range (b z : Int) (a : Option Addr) (n c : Nat) : ∀ v ∈ ([.int .i64 b, .int .i64 z, .slice a n c] : List Value), v.oneCell' = true := by
  intro u hu; simp only [List.mem_cons, List.not_mem_nil, or_false] at hu; rcases hu with rfl | rfl | rfl <;> rfl
section
variable {ops : Array Oper} {rest : List Oper} {op : Oper} {a : Act} {w : World} {Q : Exit → Act → World → Prop}
theorem wpList_store_rz (hgd : op.guard = none) (x y : Operand) (ho : op.op = .store 3 x y) (g : Nat) (k : Int) (hx : a.eval x = .pointer (some ⟨g, 1, none⟩)) (hy : a.eval y = .int .i64 k)
    (c0 c1 c2 : Value) (hg : w.heap[g]? = some (.cells #[c0, c1, c2] 24 (0, 0)))
    (h : ∀ w', w'.heap[g]? = some (.cells #[c0, .int .i64 k, c2] 24 (0, 0)) → Only g w w' → wpList Tryd.prog ops Q rest (a.put op.dst undef) w') : wpList Tryd.prog ops Q (op :: rest) a w :=
  wpList_store_cell hgd 3 x y ho g 1 (.int .i64 k) hx hy 24 [c0, c1, c2] hg sizeIT (by simp) rfl h
theorem wpList_store_rs (hgd : op.guard = none) (x y : Operand) (ho : op.op = .store 22 x y) (g : Nat) (A : Option Addr) (n C : Nat) (hx : a.eval x = .pointer (some ⟨g, 2, none⟩)) (hy : a.eval y = .slice A n C)
    (c0 c1 c2 : Value) (hg : w.heap[g]? = some (.cells #[c0, c1, c2] 24 (0, 0)))
    (h : ∀ w', w'.heap[g]? = some (.cells #[c0, c1, .slice A n C] 24 (0, 0)) → Only g w w' → wpList Tryd.prog ops Q rest (a.put op.dst undef) w') : wpList Tryd.prog ops Q (op :: rest) a w :=
  wpList_store_cell hgd 22 x y ho g 2 (.slice A n C) hx hy 24 [c0, c1, c2] hg sizeSI (by simp) rfl h
theorem wpList_store_range (hgd : op.guard = none) (x y : Operand) (ho : op.op = .store 24 x y) (g : Nat) (b z : Int) (A : Option Addr) (n C : Nat) (hx : a.eval x = .pointer (some ⟨g, 0, none⟩)) (hy : a.eval y = .agg #[.int .i64 b, .int .i64 z, .slice A n C])
    (c0 c1 c2 : Value) (hg : w.heap[g]? = some (.cells #[c0, c1, c2] 24 (0, 0)))
    (h : ∀ w', w'.heap[g]? = some (.cells #[.int .i64 b, .int .i64 z, .slice A n C] 24 (0, 0)) → Only g w w' → wpList Tryd.prog ops Q rest (a.put op.dst undef) w') : wpList Tryd.prog ops Q (op :: rest) a w :=
  wpList_store_whole hgd 24 x y ho g [.int .i64 b, .int .i64 z, .slice A n C] hx hy 24 [c0, c1, c2] hg sizeRT rfl (one_range b z A n C) h
end
def smallZ (z : Int) : Int := if 60 < z ∧ z ≤ 65536 then 60 else z
theorem infoI2 : ∃ i, Tryd.prog.info? 3 = some i ∧ i.size = 1 := by
  obtain ⟨i0, hi, _, h1, _⟩ := info_parts infoI
  exact ⟨i0, hi, h1⟩
/-- A row of ints, cut. -/
theorem ir_upto {w : World} {a : Option Addr} {n c : Nat} {l : List Int} (h : IR w (.slice a n c) l) (hn : n = l.length) (m : Nat) (hm : m ≤ n) :
    ∃ a', (∀ w', (Instr.slice 22 (.slice a n c) none (some (.int .i64 (m : Int))) none).run Tryd.prog w' = .ok (.slice a' m c) w') ∧ ∀ V, IR V (.slice a n c) l → IR V (.slice a' m c) (l.take m) := by
  obtain ⟨i0, hi, h1⟩ := infoI2
  have hnc : n ≤ c := by
    obtain ⟨_, _, _, e, h2, _⟩ := h
    simp only [Value.slice.injEq] at e
    obtain ⟨_, q, rfl⟩ := e
    omega
  have ht := Tryd.underlying22
  refine ⟨if c = 0 then a else a.map (·.add (0 * 1)), fun w' => ?_, fun V hV => ?_⟩
  · rw [run_slice_h w' 22 a n c (by rw [elem_of ht]; exact ht) .i64 m (by omega) (by omega), elem_of ht, run_sizeOf hi h1]
    simp only [Result.andThen, sliced, Int.toNat_natCast, Nat.sub_zero]
  · have e : (l.take m).length = m := by rw [List.length_take]; omega
    have h3 : Rd V 1 (.slice a n c) n (l.map (Value.int .i64)) := by subst hn; exact hV
    have h4 := Rd.cut (n' := m) (k := 0) h3 (by omega)
    unfold IR
    rw [e, List.map_take]
    simpa using h4
set_option maxRecDepth 20000 in
set_option maxHeartbeats 4000000 in
theorem small_any (b z : Int) {v : Value} {l : List Int} (w : World) (h : IR w v l) :
    Calls Tryd.prog 9 #[.agg #[.int .i64 b, .int .i64 z, v]] w fun e w' => ∃ a n c, e = .returned (.agg #[.int .i64 b, .int .i64 (smallZ z), .slice a n c]) ∧ n = (l.take 70).length ∧ (∀ V, IR V v l → IR V (.slice a n c) (l.take 70)) ∧ Below w.heap.size w w' := by
  obtain ⟨a, c, rfl, hc1, hc2⟩ := h.shape
  obtain ⟨n, hn⟩ : ∃ n, n = l.length := ⟨_, rfl⟩
  have HI := Lib.hid h
  have hn63 : (n : Int) ≤ 9223372036854775807 := by unfold maxLen at hc2; omega
  have HN := Lib.hid hn
  rw [← hn] at HI hc1 ⊢
  have HB2 : Hid (Below w.heap.size w ((w.alloc (.cells #[.int .i64 b, .int .i64 z, .slice a n c] 24)).alloc (.cells #[.int .i64 0, .int .i64 0, .slice none 0 0] 24))) := ((Below.refl _ _).alloc (Nat.le_refl _) _).alloc (by simp) _
  have HP2 : Hid (((w.alloc (.cells #[.int .i64 b, .int .i64 z, .slice a n c] 24)).alloc (.cells #[.int .i64 0, .int .i64 0, .slice none 0 0] 24)).heap[w.heap.size]? = some (.cells #[.int .i64 b, .int .i64 z, .slice a n c] 24 (0, 0))) := heap2_0' _ _ _
  have HZ2 : Hid (((w.alloc (.cells #[.int .i64 b, .int .i64 z, .slice a n c] 24)).alloc (.cells #[.int .i64 0, .int .i64 0, .slice none 0 0] 24)).heap[w.heap.size + 1]? = some (.cells #[.int .i64 0, .int .i64 0, .slice none 0 0] 24 (0, 0))) := heap2_1' _ _ _
  clear h hc2 hn
  -- the last two steps, from any world
  go_enter Tryd.func9, Tryd.ntmps9
  go_upto_region 1 with fail
  generalize ((w.alloc (.cells #[.int .i64 b, .int .i64 z, .slice a n c] 24)).alloc (.cells #[.int .i64 0, .int .i64 0, .slice none 0 0] 24)) = w0 at HB2 HP2 HZ2 ⊢
  obtain ⟨k0, k1, k2⟩ := cells3' HP2.out
  by_cases hz : 60 < z ∧ z ≤ 65536
  · have e : smallZ z = 60 := by unfold smallZ; rw [if_pos hz]
    obtain ⟨z1, z2⟩ := hz
    have E := Lib.hid e
    clear e
    go_wp2_with (with_reducible refine wpList_store_rz rfl _ _ rfl w.heap.size _ rfl rfl _ _ _ HP2.out ?_)
    intro w1 h1 ho1
    have HP := Lib.hid h1
    have HZ := Lib.hid ((ho1.heap _ (Array.getElem?_eq_some_iff.1 HZ2.out).1 (by omega)).trans HZ2.out)
    have HB := Lib.hid (ho1.below _ _ (Nat.le_refl _) HB2.out)
    clear h1 ho1 k0 k1 k2 HP2 HZ2 HB2
    obtain ⟨k0, k1, k2⟩ := cells3' HP.out
    by_cases hlen : 70 < n
    · obtain ⟨a', hrun, hir⟩ := ir_upto HI.out HN.out 70 (by omega)
      have HIR := Lib.hid hir
      have hcast : ((70 : Nat) : Int) = 70 := rfl
      rw [hcast] at hrun
      clear hir hcast
      go_wp2_with (with_reducible refine wpList_store_rs rfl _ _ rfl w.heap.size _ _ _ rfl rfl _ _ _ HP.out ?_)
      intro w2 h2 ho2
      have HPB := Lib.hid h2
      have HZB := Lib.hid ((ho2.heap _ (Array.getElem?_eq_some_iff.1 HZ.out).1 (by omega)).trans HZ.out)
      have HBB := Lib.hid (ho2.below w.heap.size w (Nat.le_refl _) HB.out)
      clear h2 ho2 k0 k1 k2
      obtain ⟨k0, k1, k2⟩ := cells3' HPB.out
      go_wp2_with (with_reducible refine wpList_store_range rfl _ _ rfl (w.heap.size + 1) _ _ _ _ _ rfl rfl _ _ _ HZB.out ?_)
      intro w5 h5 ho5
      have H5 := Lib.hid h5
      have HB5 := Lib.hid (ho5.below w.heap.size w (by omega) HBB.out)
      clear h5 ho5
      go_wp2
      refine bodyPost_ret (results_cell_row (P := Tryd.prog) (fn := Tryd.f9) rfl _ _ (w.heap.size + 1) 24 _ (0, 0) _ rfl H5.out Tryd.underlying24 rfl sizeRT) rfl ?_
      exact ⟨a', 70, c, by rw [E.out], by rw [List.length_take]; have := HN.out; omega, HIR.out, HB5.out⟩
    · have HTK : Hid (l.take 70 = l) := by show _ = _; rw [List.take_of_length_le]; have := HN.out; omega
      go_wp2_with (with_reducible refine wpList_store_range rfl _ _ rfl (w.heap.size + 1) _ _ _ _ _ rfl rfl _ _ _ HZ.out ?_)
      intro w5 h5 ho5
      have H5 := Lib.hid h5
      have HB5 := Lib.hid (ho5.below w.heap.size w (by omega) HB.out)
      clear h5 ho5
      go_wp2
      refine bodyPost_ret (results_cell_row (P := Tryd.prog) (fn := Tryd.f9) rfl _ _ (w.heap.size + 1) 24 _ (0, 0) _ rfl H5.out Tryd.underlying24 rfl sizeRT) rfl ?_
      exact ⟨a, n, c, by rw [E.out], by rw [HTK.out]; exact HN.out, by rw [HTK.out]; exact fun V hV => hV, HB5.out⟩
  · have e : smallZ z = z := by unfold smallZ; rw [if_neg hz]
    have E := Lib.hid e
    have HP := HP2
    have HZ := HZ2
    have HB := HB2
    clear e k0 k1 k2
    by_cases hz1 : 60 < z
    · have hz2 : ¬ z ≤ 65536 := fun h => hz ⟨hz1, h⟩
      obtain ⟨k0, k1, k2⟩ := cells3' HP.out
      by_cases hlen : 70 < n
      · obtain ⟨a', hrun, hir⟩ := ir_upto HI.out HN.out 70 (by omega)
        have HIR := Lib.hid hir
        have hcast : ((70 : Nat) : Int) = 70 := rfl
        rw [hcast] at hrun
        clear hir hcast
        go_wp2_with (with_reducible refine wpList_store_rs rfl _ _ rfl w.heap.size _ _ _ rfl rfl _ _ _ HP.out ?_)
        intro w2 h2 ho2
        have HPB := Lib.hid h2
        have HZB := Lib.hid ((ho2.heap _ (Array.getElem?_eq_some_iff.1 HZ.out).1 (by omega)).trans HZ.out)
        have HBB := Lib.hid (ho2.below w.heap.size w (Nat.le_refl _) HB.out)
        clear h2 ho2 k0 k1 k2
        obtain ⟨k0, k1, k2⟩ := cells3' HPB.out
        go_wp2_with (with_reducible refine wpList_store_range rfl _ _ rfl (w.heap.size + 1) _ _ _ _ _ rfl rfl _ _ _ HZB.out ?_)
        intro w5 h5 ho5
        have H5 := Lib.hid h5
        have HB5 := Lib.hid (ho5.below w.heap.size w (by omega) HBB.out)
        clear h5 ho5
        go_wp2
        refine bodyPost_ret (results_cell_row (P := Tryd.prog) (fn := Tryd.f9) rfl _ _ (w.heap.size + 1) 24 _ (0, 0) _ rfl H5.out Tryd.underlying24 rfl sizeRT) rfl ?_
        exact ⟨a', 70, c, by rw [E.out], by rw [List.length_take]; have := HN.out; omega, HIR.out, HB5.out⟩
      · have HTK : Hid (l.take 70 = l) := by show _ = _; rw [List.take_of_length_le]; have := HN.out; omega
        go_wp2_with (with_reducible refine wpList_store_range rfl _ _ rfl (w.heap.size + 1) _ _ _ _ _ rfl rfl _ _ _ HZ.out ?_)
        intro w5 h5 ho5
        have H5 := Lib.hid h5
        have HB5 := Lib.hid (ho5.below w.heap.size w (by omega) HB.out)
        clear h5 ho5
        go_wp2
        refine bodyPost_ret (results_cell_row (P := Tryd.prog) (fn := Tryd.f9) rfl _ _ (w.heap.size + 1) 24 _ (0, 0) _ rfl H5.out Tryd.underlying24 rfl sizeRT) rfl ?_
        exact ⟨a, n, c, by rw [E.out], by rw [HTK.out]; exact HN.out, by rw [HTK.out]; exact fun V hV => hV, HB5.out⟩
    · obtain ⟨k0, k1, k2⟩ := cells3' HP.out
      by_cases hlen : 70 < n
      · obtain ⟨a', hrun, hir⟩ := ir_upto HI.out HN.out 70 (by omega)
        have HIR := Lib.hid hir
        have hcast : ((70 : Nat) : Int) = 70 := rfl
        rw [hcast] at hrun
        clear hir hcast
        go_wp2_with (with_reducible refine wpList_store_rs rfl _ _ rfl w.heap.size _ _ _ rfl rfl _ _ _ HP.out ?_)
        intro w2 h2 ho2
        have HPB := Lib.hid h2
        have HZB := Lib.hid ((ho2.heap _ (Array.getElem?_eq_some_iff.1 HZ.out).1 (by omega)).trans HZ.out)
        have HBB := Lib.hid (ho2.below w.heap.size w (Nat.le_refl _) HB.out)
        clear h2 ho2 k0 k1 k2
        obtain ⟨k0, k1, k2⟩ := cells3' HPB.out
        go_wp2_with (with_reducible refine wpList_store_range rfl _ _ rfl (w.heap.size + 1) _ _ _ _ _ rfl rfl _ _ _ HZB.out ?_)
        intro w5 h5 ho5
        have H5 := Lib.hid h5
        have HB5 := Lib.hid (ho5.below w.heap.size w (by omega) HBB.out)
        clear h5 ho5
        go_wp2
        refine bodyPost_ret (results_cell_row (P := Tryd.prog) (fn := Tryd.f9) rfl _ _ (w.heap.size + 1) 24 _ (0, 0) _ rfl H5.out Tryd.underlying24 rfl sizeRT) rfl ?_
        exact ⟨a', 70, c, by rw [E.out], by rw [List.length_take]; have := HN.out; omega, HIR.out, HB5.out⟩
      · have HTK : Hid (l.take 70 = l) := by show _ = _; rw [List.take_of_length_le]; have := HN.out; omega
        go_wp2_with (with_reducible refine wpList_store_range rfl _ _ rfl (w.heap.size + 1) _ _ _ _ _ rfl rfl _ _ _ HZ.out ?_)
        intro w5 h5 ho5
        have H5 := Lib.hid h5
        have HB5 := Lib.hid (ho5.below w.heap.size w (by omega) HB.out)
        clear h5 ho5
        go_wp2
        refine bodyPost_ret (results_cell_row (P := Tryd.prog) (fn := Tryd.f9) rfl _ _ (w.heap.size + 1) 24 _ (0, 0) _ rfl H5.out Tryd.underlying24 rfl sizeRT) rfl ?_
        exact ⟨a, n, c, by rw [E.out], by rw [HTK.out]; exact HN.out, by rw [HTK.out]; exact fun V hV => hV, HB5.out⟩
/-- Another pool has turned. -/
theorem LP.other {U w w' : World} {g g' : Nat} {m m' : Pm} {S T : Po} (h : LP U g m w S) (hp : LP U g' m' w T) (ht : Tr (Fm g' m') w w') (hd : ∀ k ∈ Fm g' m', k ∉ Fm g m) : LP U g m w' S :=
  ⟨h.po.tr ht (fun k hk => (hp.po.pm.lt k hk).1) (fun k hk hk2 => hd k hk2 hk), h.off, Tr.below h.low h.low.size ht hp.off⟩
theorem ints_length_eq {w : World} {v : Value} {l : List Int} : Rd w 1 v l.length (ints l) = IR w v l := rfl
theorem OkP.few {S : Po} (h : OkP S) : S.L.length ≤ S.size ∧ S.size ≤ 65536 := by
  have h1 := parts h
  have h2 := h.r.size
  omega
end Go.Proofs.YtoemghinolekgaaDoor.Pl
