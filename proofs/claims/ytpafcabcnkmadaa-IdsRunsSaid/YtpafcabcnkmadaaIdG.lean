/-
  'copy' and 'make' at elements of any size; ring.grow, ring.push.
-/
import Derived.Test.YtpafcabcnkmadaaIdF
namespace Go.Proofs.Ytpafcabcnkmadaa.Id
open Go.RowKit
set_option linter.unusedVariables false
set_option linter.unusedSimpArgs false

section
variable {P : Program} {ops : Array Oper} {rest : List Oper} {o : Oper} {a : Act} {w : World} {Q : Exit → Act → World → Prop} {K : Act → World → Prop}
/-- 'copy(d, s)': d a block of one's own from its start, s whatever, not longer than d. -/
theorem wpList_copy_own (hgd : o.guard = none) (d s : Operand) (dT sT : TypeId)
    (ho : o.op = .call { callee := .builtin .copy, args := #[d, s], argTypes := #[dT, sT] }) (elem : TypeId) (sz : Nat) (hu : P.underlying dT = some (.slice elem)) (hsz : (P.info? elem).map (·.size) = some sz)
    (g dLen dCap : Nat) (hd : a.eval d = .slice (some ⟨g, 0, none⟩) dLen dCap) (cur : List Value) (t : TypeId) (hg : w.heap[g]? = some (.cells cur.toArray t (0, 0)))
    (y : Value) (n : Nat) (ys : List Value) (hs : a.eval s = y) (hy : Rd w sz y n ys) (hn : n ≤ dLen) (hfit : ys.length ≤ cur.length) (h1 : ∀ v ∈ ys, v.oneCell' = true)
    (h : ∀ w', w'.heap[g]? = some (.cells (ys ++ cur.drop ys.length).toArray t (0, 0)) → Only g w w' → wpList P ops Q rest (a.put o.dst (goInt n)) w') : wpList P ops Q (o :: rest) a w := by
  refine wpList_plain hgd fun K hK => ?_
  obtain ⟨h0, ao, cap, rfl, g1, g2, g3, g4⟩ := hy
  have hmin : Nat.min n dLen = n := Nat.min_eq_left hn
  cases hq : P.info? elem with
  | none => simp [hq] at hsz
  | some i =>
    have hi : i.size = sz := by simpa [hq] using hsz
    cases ao with
    | none =>
      obtain rfl : cap = 0 := g3 rfl
      obtain rfl : n = 0 := by omega
      obtain rfl : ys = [] := List.eq_nil_of_length_eq_zero (by simpa using h0)
      have hrun : (Builtin.copy_ #[dT, sT] o.type #[.slice (some ⟨g, 0, none⟩) dLen dCap, .slice none 0 0]).run P w = .ok (goInt 0) w := by
        simp [Builtin.copy_, run_underlying hu, Builtin.lenOf, Builtin.firstCells, sizeOf, typeInfo, hq, storeCells]
      unfold Oper.wp
      simp [execOp, ho, resolve, invoke, builtin, hd, hs, hrun, Result.andThen]
      exact hK _ _ (h w (by simpa using hg) (Only.refl _ _))
    | some ad =>
      have hl := run_loadCells_list (P := P) w ad ys (g4 ad rfl)
      have hst := run_storeCells_at P g 0 t ys 0 cur.toArray w hg (by simpa using hfit) h1
      have hrun : (Builtin.copy_ #[dT, sT] o.type #[.slice (some ⟨g, 0, none⟩) dLen dCap, .slice (some ad) n cap]).run P w = .ok (goInt n) (w.setRow g (ys ++ cur.drop ys.length).toArray) := by
        rw [h0] at hl
        have hst' : (storeCells ⟨g, 0, none⟩ ys).run P w = .ok () (w.setRow g (ys ++ cur.drop ys.length).toArray) := by simpa using hst
        simp [Builtin.copy_, run_underlying hu, Builtin.lenOf, Builtin.firstCells, sizeOf, typeInfo, hq, hi, hmin, hl, hst']
      unfold Oper.wp
      simp [execOp, ho, resolve, invoke, builtin, hd, hs, hrun, Result.andThen]
      exact hK _ _ (h _ (setRow_heap w g _ _ t _ hg) ⟨by simp, fun B w0 hB hb => below_setRow hb hB _, fun k _ hk => setRow_other w g k _ hk⟩)
/-- 'make([]T, n)', elements of any size. -/
theorem wpList_make_any (hg : o.guard = none) (l c : Operand) (t : TypeId) (hop : o.op = Op.makeSlice t l c)
    (e : TypeId) (i : TypeInfo) (z : Value) (h1 : P.underlying t = some (.slice e)) (h2 : P.info? e = some i) (h3 : i.zero = some z)
    (kl kc : IntKind) (L C : Int) (n : Nat) (hl : a.eval l = .int kl L) (hc : a.eval c = .int kc C) (hL : L = (n : Int)) (hC : C = (n : Int)) (b2 : i.bytes * n ≤ 281474976710656) (b3 : n ≤ maxLen)
    (h : ∀ w', w'.heap[w.heap.size]? = some (.cells (madeCells z.cells (n * i.size)) e (0, 0)) → Below w.heap.size w w' → wpList P ops Q rest (a.put o.dst (.slice (some ⟨w.heap.size, 0, none⟩) n n)) w') :
    wpList P ops Q (o :: rest) a w := by
  refine wpList_plain hg fun K hK' => ?_
  subst hL
  subst hC
  have hb3 : (n : Int) ≤ 9223372036854775807 := by unfold maxLen at b3; omega
  have hb2 : (i.bytes : Int) * (n : Int) ≤ 281474976710656 := by rw [← Int.natCast_mul]; exact Int.ofNat_le.2 b2
  have hr := run_make (P := P) w t e i z h1 h2 h3 kl kc n n (by omega) (by omega) hb2 hb3
  simp only [Int.toNat_natCast] at hr
  unfold Oper.wp
  simp [execOp, hop, hl, hc, hr, Result.andThen]
  exact hK' _ _ (h _ (heap_alloc_last _ _) ((Below.refl _ _).alloc (Nat.le_refl _) _))
end
theorem made_int (n : Nat) : (madeCells (Value.int .i64 0).cells (n * 1)).toList = ints (List.replicate n 0) := by
  have := toList_madeCells_one (.int .i64 0) n
  simpa [ints, Value.cells] using this
theorem made_bool (n : Nat) : (madeCells (Value.bool false).cells (n * 1)).toList = bools (List.replicate n false) := by
  have := toList_madeCells_one (.bool false) n
  simpa [bools, Value.cells] using this
theorem made_rest (n : Nat) : (madeCells (Value.agg #[.int .i64 0, .int .i64 0]).cells (n * 2)).toList = flatR (List.replicate n (0, 0)) := by
  apply List.ext_getElem?
  intro j
  by_cases hj : j < n * 2
  · have hi : j / 2 < (List.replicate n ((0 : Int), (0 : Int))).length := by rw [List.length_replicate]; omega
    have hg := flatR_get _ _ hi
    rw [List.getElem_replicate] at hg
    have hl : (madeCells (Value.agg #[.int .i64 0, .int .i64 0]).cells (n * 2)).toList[j]? = some (.int .i64 0) := by
      have h2 := Nat.mod_two_eq_zero_or_one j
      simp [madeCells, hj, Value.cells]
      rcases h2 with h2 | h2 <;> rw [h2] <;> rfl
    rw [hl]
    rcases Nat.mod_two_eq_zero_or_one j with h2 | h2
    · rw [show j = j / 2 * 2 by omega, hg.1]
    · rw [show j = j / 2 * 2 + 1 by omega, hg.2]
  · rw [List.getElem?_eq_none (by rw [Array.length_toList, size_madeCells]; omega), List.getElem?_eq_none (by rw [flatR_len, List.length_replicate]; omega)]
theorem blk_slice (b o n c : Nat) : blk (.slice (some ⟨b, o, none⟩) n c) = [b] := rfl
theorem sizeRingI : (Try.prog.info? 59).map (·.size) = some 3 := by kernel_rfl
theorem sizeRingR : (Try.prog.info? 61).map (·.size) = some 3 := by kernel_rfl
theorem builtRI (A : Option Addr) (L C : Nat) (k : Int) : Try.prog.built 59 [(0, .slice A L C), (2, .int .i64 k)] = some #[.slice A L C, .int .i64 0, .int .i64 k] := by kernel_rfl
theorem builtRR (A : Option Addr) (L C : Nat) (k : Int) : Try.prog.built 61 [(0, .slice A L C), (2, .int .i64 k)] = some #[.slice A L C, .int .i64 0, .int .i64 k] := by kernel_rfl
section
variable {ops : Array Oper} {rest : List Oper} {op : Oper} {a : Act} {w : World} {Q : Exit → Act → World → Prop} {K : Act → World → Prop}
/-- A whole ring into an Alloc. -/
theorem wpList_store_ringI (hgd : op.guard = none) (x y : Operand) (ho : op.op = .store 59 x y) (g : Nat) (A : Option Addr) (L C : Nat) (p k : Int) (hx : a.eval x = .pointer (some ⟨g, 3, none⟩)) (hy : a.eval y = .agg #[.slice A L C, .int .i64 p, .int .i64 k])
    (c0 c1 c2 c3 c4 c5 c6 c7 c8 c9 c10 : Value) (hg : w.heap[g]? = some (.cells #[c0, c1, c2, c3, c4, c5, c6, c7, c8, c9, c10] 63 (0, 0)))
    (h : ∀ w', w'.heap[g]? = some (.cells #[c0, c1, c2, .slice A L C, .int .i64 p, .int .i64 k, c6, c7, c8, c9, c10] 63 (0, 0)) → Only g w w' → wpList Try.prog ops Q rest (a.put op.dst undef) w') : wpList Try.prog ops Q (op :: rest) a w :=
  wpList_store_splice hgd 59 x y ho g 3 [.slice A L C, .int .i64 p, .int .i64 k] hx hy 63 [c0, c1, c2, c3, c4, c5, c6, c7, c8, c9, c10] hg sizeRingI (by simp) (by intro u hu; simp only [List.mem_cons, List.not_mem_nil, or_false] at hu; rcases hu with rfl | rfl | rfl <;> rfl) h
theorem wpList_store_ringR (hgd : op.guard = none) (x y : Operand) (ho : op.op = .store 61 x y) (g : Nat) (A : Option Addr) (L C : Nat) (p k : Int) (hx : a.eval x = .pointer (some ⟨g, 6, none⟩)) (hy : a.eval y = .agg #[.slice A L C, .int .i64 p, .int .i64 k])
    (c0 c1 c2 c3 c4 c5 c6 c7 c8 c9 c10 : Value) (hg : w.heap[g]? = some (.cells #[c0, c1, c2, c3, c4, c5, c6, c7, c8, c9, c10] 63 (0, 0)))
    (h : ∀ w', w'.heap[g]? = some (.cells #[c0, c1, c2, c3, c4, c5, .slice A L C, .int .i64 p, .int .i64 k, c9, c10] 63 (0, 0)) → Only g w w' → wpList Try.prog ops Q rest (a.put op.dst undef) w') : wpList Try.prog ops Q (op :: rest) a w :=
  wpList_store_splice hgd 61 x y ho g 6 [.slice A L C, .int .i64 p, .int .i64 k] hx hy 63 [c0, c1, c2, c3, c4, c5, c6, c7, c8, c9, c10] hg sizeRingR (by simp) (by intro u hu; simp only [List.mem_cons, List.not_mem_nil, or_false] at hu; rcases hu with rfl | rfl | rfl <;> rfl) h
end
/-- A ring that has grown. -/
def Am.growI (m : Am) (v : Value) : Am := { m with fv := v, fc := m.fl ++ List.replicate (m.fl.length + 1) 0, ff := 0 }
def Am.growR (m : Am) (v : Value) : Am := { m with rv := v, rc := m.rl ++ List.replicate (m.rl.length + 1) (0, 0), rf := 0 }
set_option maxRecDepth 20000 in
theorem grow_i (g : Nat) {m : Am} (w : World) (h : AmAt w g m) (hn : m.fl.length ≤ 65534) :
    Calls Try.prog 47 #[.pointer (some ⟨g, 3, none⟩)] w fun e w' => e = .returned (.tuple #[]) ∧ ∃ v, AmAt w' g (m.growI v) ∧ Stp g m (m.growI v) w w' := by
  obtain ⟨i0, hi, hz0, hz1, hz2⟩ := info_parts infoI
  obtain ⟨k0, k1, k2, k3, k4, k5, k6, k7, k8, k9, k10⟩ := cells11 h.row
  obtain ⟨N, hN⟩ : ∃ N, N = m.fl.length := ⟨_, rfl⟩
  rw [← hN] at k5 hn
  have x0 : wrap64 (2 * (N : Int)) = 2 * (N : Int) := wrap64_in (by omega) (by omega)
  have x1 : wrap64 (2 * (N : Int) + 1) = 2 * (N : Int) + 1 := wrap64_in (by omega) (by omega)
  have HH := Lib.hid h
  have HN := Lib.hid hN
  have hb2 : i0.bytes * (2 * N + 1) ≤ 281474976710656 := by rw [hz2]; omega
  have hb3 : 2 * N + 1 ≤ maxLen := by unfold maxLen; omega
  have hC : 2 * (N : Int) + 1 = ((2 * N + 1 : Nat) : Int) := by omega
  have HB2 := Lib.hid hb2
  have HB3 := Lib.hid hb3
  have HC := Lib.hid hC
  clear h hN k0 k1 k2 k3 k4 k6 k7 k8 k9 k10 hb2 hb3 hC
  go_enter Try.func47, Try.ntmps47
  go_wp2_with (with_reducible refine wpList_make_any rfl (.tmp 8) (.tmp 8) 41 rfl 3 i0 (.int .i64 0) Try.underlying41 hi hz0 .i64 .i64 (2 * (N : Int) + 1) (2 * (N : Int) + 1) (2 * N + 1) rfl rfl HC.out HC.out HB2.out HB3.out ?_)
  intro w1 h1 hb1
  have H1 : Hid (w1.heap[w.heap.size]? = some (.cells (ints (List.replicate (2 * m.fl.length + 1) 0)).toArray 3 (0, 0))) := by
    show _ = _
    rw [← HN.out, ← made_int, Array.toArray_toList]
    first
      | exact h1
      | simpa [Value.cells] using h1
  have HA1 := Lib.hid (HH.out.gr hb1)
  have HB1 := Lib.hid hb1
  clear h1 hb1 x0 x1 k5
  go_wp2_with fail
  refine (all_i g _ HA1.out).mono ?_
  rintro e w2 ⟨v2, rfl, ho2, hb2⟩
  have HA2 := Lib.hid (HA1.out.gr hb2)
  have H2 := Lib.hid (heap_below H1.out hb2)
  have HB2' := Lib.hid (HB1.out.trans (Below.mono hb2 HB1.out.size))
  have HRD : Hid (Rd w2 1 v2 N (ints m.fl)) := by have := own_rd ho2; rw [← HN.out] at this; exact this
  have HNL : Hid (N ≤ 2 * N + 1) := by show _ ≤ _; omega
  have HFIT : Hid ((ints m.fl).length ≤ (ints (List.replicate (2 * m.fl.length + 1) 0)).length) := by show _ ≤ _; simp [ints]; omega
  have HONE : Hid (∀ u ∈ ints m.fl, u.oneCell' = true) := ints_cell _
  clear ho2 hb2 HA1 H1 HB1
  go_wp2_with (refine wpList_copy_own rfl (.tmp 10) (.tmp 12) 41 41 rfl 3 1 Try.underlying41 sizeI w.heap.size _ _ rfl _ 3 H2.out _ N _ rfl HRD.out HNL.out HFIT.out HONE.out ?_)
  intro w3 h3 ho3
  have HA3 : Hid (AmAt w3 g m) := HA2.out.keep fun k hk => ho3.heap k (HA2.out.lt k hk) (by have := HH.out.lt k hk; omega)
  have H3 : Hid (w3.heap[w.heap.size]? = some (.cells (ints (m.fl ++ List.replicate (m.fl.length + 1) 0)).toArray 3 (0, 0))) := by
    show _ = _
    rw [h3]
    congr 3
    simp [ints, List.drop_replicate]
    omega
  have HB3' : Hid (Below w.heap.size w w3) := ho3.below _ _ (Nat.le_refl _) HB2'.out
  clear h3 ho3 HA2 H2 HB2' HRD HNL HFIT HONE
  obtain ⟨k0, k1, k2, k3, k4, k5, k6, k7, k8, k9, k10⟩ := cells11 HA3.out.row
  rw [← HN.out] at k5
  have hbu := builtRI (some ⟨w.heap.size, 0, none⟩) (2 * N + 1) (2 * N + 1) (N : Int)
  go_wp2_with (with_reducible refine wpList_store_ringI rfl (.tmp 21) (.tmp 20) rfl g _ _ _ 0 (N : Int) rfl rfl _ _ _ _ _ _ _ _ _ _ _ HA3.out.row ?_)
  intro w4 h4 ho4
  have H4 := Lib.hid h4
  have HO4 := Lib.hid ho4
  clear h4 ho4 k0 k1 k2 k3 k4 k5 k6 k7 k8 k9 k10 hbu
  go_wp2
  go_end0
  have hne := HA3.out.ne
  have hlt := HH.out.lt
  have hgw : g < w.heap.size := hlt g Fm.g
  have hlen : (m.fl ++ List.replicate (m.fl.length + 1) (0 : Int)).length = 2 * N + 1 := by rw [List.length_append, List.length_replicate, ← HN.out]; omega
  have hblk : w4.heap[w.heap.size]? = some (.cells (ints (m.fl ++ List.replicate (m.fl.length + 1) 0)).toArray 3 (0, 0)) := (HO4.out.heap _ (Array.getElem?_eq_some_iff.1 H3.out).1 (by omega)).trans H3.out
  refine ⟨rfl, .slice (some ⟨w.heap.size, 0, none⟩) (2 * N + 1) (2 * N + 1), ⟨?_, ?_, R.whole _ _, ?_, HA3.out.rr, ?_, HA3.out.made, ?_⟩, ⟨?_, ?_⟩⟩
  · have := H4.out
    rw [HN.out] at this ⊢
    exact this
  · show w4.ownsRow 0 3 1 _ (m.fl ++ List.replicate (m.fl.length + 1) (0 : Int)).length (ints (m.fl ++ List.replicate (m.fl.length + 1) 0))
    rw [hlen]
    refine own_shut hblk (Nat.le_refl _) HB3.out ?_ ?_
    · rw [ints_length, hlen]; omega
    · rw [List.take_of_length_le]; rw [ints_length, hlen]; omega
  · exact own_keep HA3.out.ro fun k hk => HO4.out.heap k (own_blk_lt HA3.out.ro hk) (hne.2.1 k hk).1
  · exact own_keep HA3.out.to fun k hk => HO4.out.heap k (own_blk_lt HA3.out.to hk) (hne.2.2 k hk).1
  · refine ⟨?_, HH.out.few.2⟩
    show (m.fl ++ List.replicate (m.fl.length + 1) (0 : Int)).length ≤ _
    rw [hlen]; omega
  · exact (Tr.gr HB3'.out).trans (Tr.only HO4.out Fm.g) fun i hi => .inl hi
  · intro k hk
    simp only [Fm, Am.growI, blk_slice, List.mem_cons, List.mem_append, List.not_mem_nil, or_false] at hk ⊢
    rcases hk with hk | hk | hk | hk
    · exact .inl (.inl hk)
    · exact .inr (by omega)
    · exact .inl (.inr (.inr (.inl hk)))
    · exact .inl (.inr (.inr (.inr hk)))
end Go.Proofs.Ytpafcabcnkmadaa.Id
