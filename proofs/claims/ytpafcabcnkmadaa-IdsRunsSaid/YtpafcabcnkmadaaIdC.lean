/-
  Rings: the first and the last of those that rest; what is popped.
-/
import Derived.Test.YtpafcabcnkmadaaIdB
namespace Go.Proofs.Ytpafcabcnkmadaa.Id
open Go.RowKit
set_option linter.unusedVariables false
set_option linter.unusedSimpArgs false

section
variable {ops : Array Oper} {rest : List Oper} {op : Oper} {a : Act} {w : World} {Q : Exit → Act → World → Prop} {K : Act → World → Prop}
theorem sizeI : (Try.prog.info? 3).map (·.size) = some 1 := by kernel_rfl
theorem sizeB : (Try.prog.info? 4).map (·.size) = some 1 := by kernel_rfl
/-- A number into one of an Alloc's cells. -/
theorem wpList_store_fld (hgd : op.guard = none) (x y : Operand) (ho : op.op = .store 3 x y) (g o : Nat) (k : Int) (hx : a.eval x = .pointer (some ⟨g, o, none⟩)) (hy : a.eval y = .int .i64 k)
    (c0 c1 c2 c3 c4 c5 c6 c7 c8 c9 c10 : Value) (hg : w.heap[g]? = some (.cells #[c0, c1, c2, c3, c4, c5, c6, c7, c8, c9, c10] 63 (0, 0))) (hfit : o < 11)
    (h : ∀ w', w'.heap[g]? = some (.cells ([c0, c1, c2, c3, c4, c5, c6, c7, c8, c9, c10].set o (.int .i64 k)).toArray 63 (0, 0)) → Only g w w' → wpList Try.prog ops Q rest (a.put op.dst undef) w') : wpList Try.prog ops Q (op :: rest) a w :=
  wpList_store_cell hgd 3 x y ho g o (.int .i64 k) hx hy 63 [c0, c1, c2, c3, c4, c5, c6, c7, c8, c9, c10] hg sizeI hfit rfl h
theorem wpList_store_flag (hgd : op.guard = none) (x y : Operand) (ho : op.op = .store 4 x y) (g o : Nat) (k : Bool) (hx : a.eval x = .pointer (some ⟨g, o, none⟩)) (hy : a.eval y = .bool k)
    (c0 c1 c2 c3 c4 c5 c6 c7 c8 c9 c10 : Value) (hg : w.heap[g]? = some (.cells #[c0, c1, c2, c3, c4, c5, c6, c7, c8, c9, c10] 63 (0, 0))) (hfit : o < 11)
    (h : ∀ w', w'.heap[g]? = some (.cells ([c0, c1, c2, c3, c4, c5, c6, c7, c8, c9, c10].set o (.bool k)).toArray 63 (0, 0)) → Only g w w' → wpList Try.prog ops Q rest (a.put op.dst undef) w') : wpList Try.prog ops Q (op :: rest) a w :=
  wpList_store_cell hgd 4 x y ho g o (.bool k) hx hy 63 [c0, c1, c2, c3, c4, c5, c6, c7, c8, c9, c10] hg sizeB hfit rfl h
end
theorem front_r_none (g : Nat) (w : World) (h8 : w.cell? ⟨g, 8, none⟩ = some (.int .i64 0)) :
    Calls Try.prog 49 #[.pointer (some ⟨g, 6, none⟩)] w fun e w' => e = .returned (.tuple #[.agg #[.int .i64 0, .int .i64 0], .bool false]) ∧ Below w.heap.size w w' := by
  have hB1 : Below w.heap.size w (w.alloc (.cells #[.int .i64 0, .int .i64 0] 54)) := (Below.refl _ _).alloc (Nat.le_refl _) _
  have HG1 : Hid ((w.alloc (.cells #[.int .i64 0, .int .i64 0] 54)).heap[w.heap.size]? = some (.cells #[.int .i64 0, .int .i64 0] 54)) := heap_alloc_last _ _
  have h8' := cell_gr hB1 h8
  have HA := Lib.hid (at_r_none g 0 _ (n := 0) h8' (.inr (Int.le_refl _)))
  have HB1 := Lib.hid hB1
  clear h8 h8' hB1
  go_enter Try.func49, Try.ntmps49
  go_wp2_with fail
  refine HA.out.mono ?_
  rintro e w1 ⟨rfl, hb⟩
  have HG2 := Lib.hid (heap_below HG1.out hb)
  have HB2 := Lib.hid (HB1.out.trans (Below.mono hb HB1.out.size))
  clear hb HA
  go_wp2_with (with_reducible refine wpList_store_pair rfl (.tmp 2) (.tmp 6) rfl w.heap.size 0 0 rfl rfl _ _ HG2.out ?_)
  intro w3 h3 ho3
  have H3 := Lib.hid h3
  have HB3 : Hid (Below w.heap.size w w3) := ho3.below _ _ (Nat.le_refl _) HB2.out
  clear h3 ho3
  go_wp2
  refine bodyPost_ret (v := .tuple #[.agg #[.int .i64 0, .int .i64 0], .bool false]) (results_cell_tmp_row (P := Try.prog) (fn := Try.f49) rfl _ _ w.heap.size 54 _ (0, 0) _ rfl H3.out Try.underlying54 rfl (by kernel_rfl)) rfl ?_
  exact ⟨rfl, HB3.out⟩
theorem front_r_some (g : Nat) {m : Am} {x : Int × Int} {l : List (Int × Int)} (w : World) (h : AmAt w g m) (hi : m.rl = x :: l) :
    Calls Try.prog 49 #[.pointer (some ⟨g, 6, none⟩)] w fun e w' => e = .returned (.tuple #[pairV x, .bool true]) ∧ Below w.heap.size w w' := by
  have hB1 : Below w.heap.size w (w.alloc (.cells #[.int .i64 0, .int .i64 0] 54)) := (Below.refl _ _).alloc (Nat.le_refl _) _
  have HG1 : Hid ((w.alloc (.cells #[.int .i64 0, .int .i64 0] 54)).heap[w.heap.size]? = some (.cells #[.int .i64 0, .int .i64 0] 54)) := heap_alloc_last _ _
  have hx : ∀ h : 0 < m.rl.length, m.rl[0] = x := fun h => by simp [hi]
  have A := at_r_some g 0 _ (h.gr hB1) (by rw [hi]; simp)
  rw [hx] at A
  have HA := Lib.hid A
  have HB1 := Lib.hid hB1
  clear A h hi hx hB1
  go_enter Try.func49, Try.ntmps49
  go_wp2_with fail
  refine HA.out.mono ?_
  rintro e w1 ⟨rfl, hb⟩
  have HG2 := Lib.hid (heap_below HG1.out hb)
  have HB2 := Lib.hid (HB1.out.trans (Below.mono hb HB1.out.size))
  clear hb HA
  unfold pairV
  go_wp2_with (with_reducible refine wpList_store_pair rfl (.tmp 2) (.tmp 6) rfl w.heap.size x.1 x.2 rfl rfl _ _ HG2.out ?_)
  intro w3 h3 ho3
  have H3 := Lib.hid h3
  have HB3 : Hid (Below w.heap.size w w3) := ho3.below _ _ (Nat.le_refl _) HB2.out
  clear h3 ho3
  go_wp2
  refine bodyPost_ret (v := .tuple #[pairV x, .bool true]) (results_cell_tmp_row (P := Try.prog) (fn := Try.f49) rfl _ _ w.heap.size 54 _ (0, 0) _ rfl H3.out Try.underlying54 rfl (by kernel_rfl)) rfl ?_
  exact ⟨rfl, HB3.out⟩
theorem back_r_none (g : Nat) (w : World) (h8 : w.cell? ⟨g, 8, none⟩ = some (.int .i64 0)) :
    Calls Try.prog 39 #[.pointer (some ⟨g, 6, none⟩)] w fun e w' => e = .returned (.tuple #[.agg #[.int .i64 0, .int .i64 0], .bool false]) ∧ Below w.heap.size w w' := by
  have hB1 : Below w.heap.size w (w.alloc (.cells #[.int .i64 0, .int .i64 0] 54)) := (Below.refl _ _).alloc (Nat.le_refl _) _
  have HG1 : Hid ((w.alloc (.cells #[.int .i64 0, .int .i64 0] 54)).heap[w.heap.size]? = some (.cells #[.int .i64 0, .int .i64 0] 54)) := heap_alloc_last _ _
  have h8' := cell_gr hB1 h8
  have HA := Lib.hid (at_r_none g (-1) _ (n := 0) h8' (.inl (by decide)))
  have HB1 := Lib.hid hB1
  clear h8 hB1
  go_enter Try.func39, Try.ntmps39
  go_wp2_with fail
  refine HA.out.mono ?_
  rintro e w1 ⟨rfl, hb⟩
  have HG2 := Lib.hid (heap_below HG1.out hb)
  have HB2 := Lib.hid (HB1.out.trans (Below.mono hb HB1.out.size))
  clear hb HA
  go_wp2_with (with_reducible refine wpList_store_pair rfl (.tmp 2) (.tmp 11) rfl w.heap.size 0 0 rfl rfl _ _ HG2.out ?_)
  intro w3 h3 ho3
  have H3 := Lib.hid h3
  have HB3 : Hid (Below w.heap.size w w3) := ho3.below _ _ (Nat.le_refl _) HB2.out
  clear h3 ho3
  go_wp2
  refine bodyPost_ret (v := .tuple #[.agg #[.int .i64 0, .int .i64 0], .bool false]) (results_cell_tmp_row (P := Try.prog) (fn := Try.f39) rfl _ _ w.heap.size 54 _ (0, 0) _ rfl H3.out Try.underlying54 rfl (by kernel_rfl)) rfl ?_
  exact ⟨rfl, HB3.out⟩
theorem back_r_some (g : Nat) {m : Am} {x : Int × Int} {l : List (Int × Int)} (w : World) (h : AmAt w g m) (hi : m.rl = l ++ [x]) :
    Calls Try.prog 39 #[.pointer (some ⟨g, 6, none⟩)] w fun e w' => e = .returned (.tuple #[pairV x, .bool true]) ∧ Below w.heap.size w w' := by
  have hB1 : Below w.heap.size w (w.alloc (.cells #[.int .i64 0, .int .i64 0] 54)) := (Below.refl _ _).alloc (Nat.le_refl _) _
  have HG1 : Hid ((w.alloc (.cells #[.int .i64 0, .int .i64 0] 54)).heap[w.heap.size]? = some (.cells #[.int .i64 0, .int .i64 0] 54)) := heap_alloc_last _ _
  have hlen : m.rl.length = l.length + 1 := by rw [hi]; simp
  have hx : ∀ h : l.length < m.rl.length, m.rl[l.length] = x := fun h => by simp [hi]
  have A := at_r_some g l.length _ (h.gr hB1) (by omega)
  rw [hx] at A
  have hfew := h.rr.few
  have h131 := h.few.2
  have k8 : (w.alloc (.cells #[.int .i64 0, .int .i64 0] 54)).cell? ⟨g, 8, none⟩ = some (.int .i64 ((l.length : Int) + 1)) := by
    have := (cells11 (h.gr hB1).row).2.2.2.2.2.2.2.2.1
    rw [hlen] at this
    exact this
  have x1 : wrap64 ((l.length : Int) + 1 - 1) = (l.length : Int) := by rw [wrap64_in (by omega) (by omega)]; omega
  have x2 : wrap64 (l.length : Int) = (l.length : Int) := wrap64_in (by omega) (by omega)
  have x3 : (l.length : Int) + 1 - 1 = (l.length : Int) := by omega
  have HA := Lib.hid A
  have HB1 := Lib.hid hB1
  clear A h hi hx hB1 hlen hfew h131
  go_enter Try.func39, Try.ntmps39
  go_wp2_with fail
  refine HA.out.mono ?_
  rintro e w1 ⟨rfl, hb⟩
  have HG2 := Lib.hid (heap_below HG1.out hb)
  have HB2 := Lib.hid (HB1.out.trans (Below.mono hb HB1.out.size))
  clear hb HA
  unfold pairV
  go_wp2_with (with_reducible refine wpList_store_pair rfl (.tmp 2) (.tmp 11) rfl w.heap.size x.1 x.2 rfl rfl _ _ HG2.out ?_)
  intro w3 h3 ho3
  have H3 := Lib.hid h3
  have HB3 : Hid (Below w.heap.size w w3) := ho3.below _ _ (Nat.le_refl _) HB2.out
  clear h3 ho3
  go_wp2
  refine bodyPost_ret (v := .tuple #[pairV x, .bool true]) (results_cell_tmp_row (P := Try.prog) (fn := Try.f39) rfl _ _ w.heap.size 54 _ (0, 0) _ rfl H3.out Try.underlying54 rfl (by kernel_rfl)) rfl ?_
  exact ⟨rfl, HB3.out⟩
/-! What is popped. -/
theorem pop_i_none (g : Nat) (w : World) (h5 : w.cell? ⟨g, 5, none⟩ = some (.int .i64 0)) :
    Calls Try.prog 36 #[.pointer (some ⟨g, 3, none⟩)] w fun e w' => e = .returned (.tuple #[.int .i64 0, .bool false]) ∧ w = w' := by
  have HF := Lib.hid (front_i_none g w h5)
  clear h5
  go_enter Try.func36, Try.ntmps36
  go_wp2_with fail
  refine HF.out.mono ?_
  rintro e w1 ⟨rfl, rfl⟩
  go_wp2
  go_ret2
  exact ⟨rfl, rfl⟩
def Am.popI (m : Am) : Am := { m with ff := pl m.ff m.fc.length 1, fl := m.fl.tail }
def Am.popR (m : Am) : Am := { m with rf := pl m.rf m.rc.length 1, rl := m.rl.tail }
theorem pop_i_some (g : Nat) {m : Am} {x : Int} {l : List Int} (w : World) (h : AmAt w g m) (hi : m.fl = x :: l) :
    Calls Try.prog 36 #[.pointer (some ⟨g, 3, none⟩)] w fun e w' => e = .returned (.tuple #[.int .i64 x, .bool true]) ∧ AmAt w' g m.popI ∧ Stp g m m.popI w w' := by
  have hfew := h.fr.few
  have h131 := h.few.1
  have hlen : m.fl.length = l.length + 1 := by rw [hi]; simp
  have HF := Lib.hid (front_i_some g w h hi)
  have HPOP : Hid (R m.fc m.popI.ff m.popI.fl) := by
    have := h.fr
    rw [hi] at this
    have := this.pop
    show R m.fc (pl m.ff m.fc.length 1) m.fl.tail
    rw [hi]
    exact this
  have HH := Lib.hid h
  obtain ⟨b, cap, cur, ev, _⟩ := own_open h.fo (.inl (by omega))
  have PL : ∀ w' : World, w'.cell? ⟨g, 3, none⟩ = some (.slice (some ⟨b, 0, none⟩) m.fc.length cap) → w'.cell? ⟨g, 4, none⟩ = some (.int .i64 (m.ff : Int)) → _ := fun w' a' b' => place_i g _ _ cap m.ff 1 w' a' b' h131 h.fr.first_lt (by omega)
  have HPL := Lib.hid PL
  have HEV := Lib.hid ev
  have HTL : Hid (m.fl.tail.length = l.length) := by show _ = _; rw [hi]; rfl
  have HLEN := Lib.hid hlen
  obtain ⟨p, hpe⟩ : ∃ p, p = pl m.ff m.fc.length 1 := ⟨_, rfl⟩
  rw [← hpe] at HPL
  have HPE := Lib.hid hpe
  have x1 : wrap64 ((l.length : Int) + 1 - 1) = (l.length : Int) := by rw [wrap64_in (by omega) (by omega)]; omega
  have x2 : wrap64 (l.length : Int) = (l.length : Int) := wrap64_in (by omega) (by omega)
  have x3 : (l.length : Int) + 1 - 1 = (l.length : Int) := by omega
  clear PL ev h hi hlen hpe
  go_enter Try.func36, Try.ntmps36
  go_wp2_with fail
  refine HF.out.mono ?_
  rintro e w1 ⟨rfl, hb⟩
  have HA1 := Lib.hid (HH.out.gr hb)
  have HB1 := Lib.hid hb
  obtain ⟨k0, k1, k2, k3, k4, k5, k6, k7, k8, k9, k10⟩ := cells11 HA1.out.row
  rw [HEV.out] at k3
  clear hb HF
  go_wp2_with fail
  refine (HPL.out _ k3 k4).mono ?_
  rintro e w2 ⟨rfl, rfl⟩
  go_wp2_with (with_reducible refine wpList_store_fld rfl (.tmp 16) (.tmp 14) rfl g 4 (p : Int) rfl rfl _ _ _ _ _ _ _ _ _ _ _ HA1.out.row (by decide) ?_)
  intro w2 h2 ho2
  have HO2 := Lib.hid ho2
  have H2 : Hid (w2.heap[g]? = some (.cells #[.int .i64 m.lo, .int .i64 m.hi, .int .i64 m.q, m.fv, .int .i64 (p : Int), .int .i64 (m.fl.length : Int), m.rv, .int .i64 (m.rf : Int), .int .i64 (m.rl.length : Int), m.tv, .bool m.fell] 63 (0, 0))) := h2
  clear h2 ho2 k0 k1 k2 k3 k4 k5 k6 k7 k8 k9 k10
  obtain ⟨k0, k1, k2, k3, k4, k5, k6, k7, k8, k9, k10⟩ := cells11 H2.out
  rw [HLEN.out] at k5
  have k5' : w2.cell? ⟨g, 5, none⟩ = some (.int .i64 ((l.length : Int) + 1)) := k5
  clear k5
  go_wp2_with (with_reducible refine wpList_store_fld rfl (.tmp 23) (.tmp 21) rfl g 5 (wrap64 (l.length : Int)) rfl rfl _ _ _ _ _ _ _ _ _ _ _ H2.out (by decide) ?_)
  intro w3 h3 ho3
  have HO3 := Lib.hid (HO2.out.trans ho3)
  try rw [x2] at h3
  have H3 : Hid (w3.heap[g]? = some (.cells #[.int .i64 m.lo, .int .i64 m.hi, .int .i64 m.q, m.fv, .int .i64 (p : Int), .int .i64 (l.length : Int), m.rv, .int .i64 (m.rf : Int), .int .i64 (m.rl.length : Int), m.tv, .bool m.fell] 63 (0, 0))) := h3
  clear h3 ho3 k0 k1 k2 k3 k4 k5' k6 k7 k8 k9 k10
  go_wp2
  go_ret2
  refine ⟨rfl, HA1.out.turned ?_ HO3.out rfl rfl HPOP.out rfl rfl HA1.out.rr rfl rfl, (Stp.gr HB1.out).trans (Stp.same (Tr.only HO3.out Fm.g) rfl rfl rfl)⟩
  have := H3.out
  rw [HPE.out, ← HTL.out] at this
  exact this
theorem pop_r_some (g : Nat) {m : Am} {x : Int × Int} {l : List (Int × Int)} (w : World) (h : AmAt w g m) (hi : m.rl = x :: l) :
    Calls Try.prog 50 #[.pointer (some ⟨g, 6, none⟩)] w fun e w' => e = .returned (.tuple #[pairV x, .bool true]) ∧ AmAt w' g m.popR ∧ Stp g m m.popR w w' := by
  have hB1 : Below w.heap.size w (w.alloc (.cells #[.int .i64 0, .int .i64 0] 54)) := (Below.refl _ _).alloc (Nat.le_refl _) _
  have HG1 : Hid ((w.alloc (.cells #[.int .i64 0, .int .i64 0] 54)).heap[w.heap.size]? = some (.cells #[.int .i64 0, .int .i64 0] 54)) := heap_alloc_last _ _
  have hlt : g < w.heap.size := h.lt g Fm.g
  have HLTW : Hid (∀ k ∈ Fm g m, k < w.heap.size) := h.lt
  have h' := h.gr hB1
  have hfew := h.rr.few
  have h131 := h.few.2
  have hlen : m.rl.length = l.length + 1 := by rw [hi]; simp
  have HF := Lib.hid (front_r_some g _ h' hi)
  have HPOP : Hid (R m.rc m.popR.rf m.popR.rl) := by
    have := h.rr
    rw [hi] at this
    have := this.pop
    show R m.rc (pl m.rf m.rc.length 1) m.rl.tail
    rw [hi]
    exact this
  have HH := Lib.hid h'
  obtain ⟨b, cap, cur, ev, _⟩ := own_open h.ro (.inl (by omega))
  have PL : ∀ w' : World, w'.cell? ⟨g, 6, none⟩ = some (.slice (some ⟨b, 0, none⟩) m.rc.length cap) → w'.cell? ⟨g, 7, none⟩ = some (.int .i64 (m.rf : Int)) → _ := fun w' a' b' => place_r g _ _ cap m.rf 1 w' a' b' h131 h.rr.first_lt (by omega)
  have HPL := Lib.hid PL
  have HEV := Lib.hid ev
  have HTL : Hid (m.rl.tail.length = l.length) := by show _ = _; rw [hi]; rfl
  have HLEN := Lib.hid hlen
  have HB1 := Lib.hid hB1
  have HLT := Lib.hid hlt
  obtain ⟨p, hpe⟩ : ∃ p, p = pl m.rf m.rc.length 1 := ⟨_, rfl⟩
  rw [← hpe] at HPL
  have HPE := Lib.hid hpe
  have x2 : wrap64 (l.length : Int) = (l.length : Int) := wrap64_in (by omega) (by omega)
  clear PL ev h h' hi hlen hpe hB1 hlt
  go_enter Try.func50, Try.ntmps50
  go_wp2_with fail
  generalize w.alloc (.cells #[.int .i64 0, .int .i64 0] 54) = w1 at HB1 HG1 HF HH ⊢
  refine HF.out.mono ?_
  rintro e w2 ⟨rfl, hb⟩
  have HA2 := Lib.hid (HH.out.gr hb)
  have HG2 := Lib.hid (heap_below HG1.out hb)
  have HB2 := Lib.hid (HB1.out.trans (Below.mono hb HB1.out.size))
  clear hb HF HH HG1 HB1
  unfold pairV
  have hb3 : Below w2.heap.size w2 (w2.alloc (.cells #[.int .i64 0, .int .i64 0] 54)) := (Below.refl _ _).alloc (Nat.le_refl _) _
  have HA3 := Lib.hid (HA2.out.gr hb3)
  have HG3 := Lib.hid (heap_below HG2.out hb3)
  have HB3 := Lib.hid (HB2.out.trans (Below.mono hb3 HB2.out.size))
  have HT3 : Hid ((w2.alloc (.cells #[.int .i64 0, .int .i64 0] 54)).heap[w2.heap.size]? = some (.cells #[.int .i64 0, .int .i64 0] 54)) := heap_alloc_last _ _
  clear hb3
  go_wp2_with (with_reducible refine wpList_store_pair rfl (.tmp 4) (.tmp 9) rfl w2.heap.size x.1 x.2 rfl rfl _ _ HT3.out ?_)
  intro w4 h4 ho4
  obtain ⟨bt, hbt⟩ : ∃ b, b = w2.heap.size := ⟨_, rfl⟩
  rw [← hbt] at h4 ho4 ⊢
  have hne : w.heap.size < bt := by rw [hbt]; exact (Array.getElem?_eq_some_iff.1 HG2.out).1
  have HA4 : Hid (AmAt w4 g m) := HA2.out.keep fun k hk => by
    have hk2 := HA2.out.lt k hk
    rw [ho4.heap k (by simp; omega) (by omega), Below.heap_alloc _ _ _ hk2]
  have HG4 : Hid (w4.heap[w.heap.size]? = some (.cells #[.int .i64 0, .int .i64 0] 54)) := (ho4.heap _ (Array.getElem?_eq_some_iff.1 HG3.out).1 (by omega)).trans HG3.out
  have HB4 : Hid (Below w.heap.size w w4) := ho4.below _ _ (by omega) HB3.out
  have HT4 := Lib.hid h4
  have HNE := Lib.hid hne
  clear HA2 HA3 HG2 HG3 HB2 HB3 HT3 h4 ho4 hne hbt
  obtain ⟨k0, k1, k2, k3, k4, k5, k6, k7, k8, k9, k10⟩ := cells11 HA4.out.row
  rw [HEV.out] at k6
  go_wp2_with fail
  refine (HPL.out _ k6 k7).mono ?_
  rintro e w5 ⟨rfl, rfl⟩
  go_wp2_with (with_reducible refine wpList_store_fld rfl (.tmp 16) (.tmp 14) rfl g 7 (p : Int) rfl rfl _ _ _ _ _ _ _ _ _ _ _ HA4.out.row (by decide) ?_)
  intro w5 h5 ho5
  have HO5 := Lib.hid ho5
  have H5 : Hid (w5.heap[g]? = some (.cells #[.int .i64 m.lo, .int .i64 m.hi, .int .i64 m.q, m.fv, .int .i64 (m.ff : Int), .int .i64 (m.fl.length : Int), m.rv, .int .i64 (p : Int), .int .i64 (m.rl.length : Int), m.tv, .bool m.fell] 63 (0, 0))) := h5
  clear h5 ho5 k0 k1 k2 k3 k4 k5 k6 k7 k8 k9 k10
  obtain ⟨k0, k1, k2, k3, k4, k5, k6, k7, k8, k9, k10⟩ := cells11 H5.out
  rw [HLEN.out] at k8
  have k8' : w5.cell? ⟨g, 8, none⟩ = some (.int .i64 ((l.length : Int) + 1)) := k8
  clear k8
  go_wp2_with (with_reducible refine wpList_store_fld rfl (.tmp 23) (.tmp 21) rfl g 8 (wrap64 (l.length : Int)) rfl rfl _ _ _ _ _ _ _ _ _ _ _ H5.out (by decide) ?_)
  intro w6 h6 ho6
  try rw [x2] at h6
  have HO6 := Lib.hid (HO5.out.trans ho6)
  have H6 : Hid (w6.heap[g]? = some (.cells #[.int .i64 m.lo, .int .i64 m.hi, .int .i64 m.q, m.fv, .int .i64 (m.ff : Int), .int .i64 (m.fl.length : Int), m.rv, .int .i64 (p : Int), .int .i64 (l.length : Int), m.tv, .bool m.fell] 63 (0, 0))) := h6
  have HT6 : Hid (w6.heap[bt]? = some (.cells #[.int .i64 x.1, .int .i64 x.2] 54 (0, 0))) := (HO6.out.heap _ (Array.getElem?_eq_some_iff.1 HT4.out).1 (by have := HNE.out; have := HLT.out; omega)).trans HT4.out
  have HG6 : Hid (w6.heap[w.heap.size]? = some (.cells #[.int .i64 0, .int .i64 0] 54)) := (HO6.out.heap _ (Array.getElem?_eq_some_iff.1 HG4.out).1 (by have := HLT.out; omega)).trans HG4.out
  clear h6 ho6 k0 k1 k2 k3 k4 k5 k6 k7 k8' k9 k10 HT4
  obtain ⟨c0, c1⟩ := cells2 HT6.out
  go_wp2_with (with_reducible refine wpList_store_pair rfl (.tmp 2) (.tmp 24) rfl w.heap.size x.1 x.2 rfl rfl _ _ HG6.out ?_)
  intro w7 h7 ho7
  have H7 := Lib.hid h7
  have HO7 := Lib.hid ho7
  clear h7 ho7 c0 c1
  go_wp2
  refine bodyPost_ret (v := .tuple #[pairV x, .bool true]) (results_cell_tmp_row (P := Try.prog) (fn := Try.f50) rfl _ _ w.heap.size 54 _ (0, 0) _ rfl H7.out Try.underlying54 rfl (by kernel_rfl)) rfl ?_
  have h6 : AmAt w6 g m.popR := HA4.out.turned (by
    have := H6.out
    rw [HPE.out, ← HTL.out] at this
    exact this) HO6.out rfl rfl HA4.out.fr rfl rfl HPOP.out rfl rfl
  refine ⟨rfl, h6.keep fun k hk => HO7.out.heap k (h6.lt k hk) (by have := HLTW.out k hk; omega), ?_⟩
  exact Stp.same (((Tr.gr HB4.out).trans (Tr.only HO6.out Fm.g) fun i hi => .inl hi).trans (Tr.only HO7.out (List.mem_singleton.2 rfl) (K := [w.heap.size])) fun i hi => .inr (by obtain rfl := List.mem_singleton.1 hi; exact Nat.le_refl _)) rfl rfl rfl
end Go.Proofs.Ytpafcabcnkmadaa.Id
