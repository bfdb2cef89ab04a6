import Derived.Test.YtjlacialbfhjcaaDoorShaC
namespace Go.Proofs.YtjlacialbfhjcaaDoor
open Go.RowKit
set_option linter.unusedVariables false
set_option linter.unusedSimpArgs false

theorem info_u32 : (Tryd.prog.info? 77).map (fun i => (i.zero, i.size, i.bytes)) = some (some (.int .u32 0), 1, 4) := by kernel_rfl
theorem table_any (w : World) :
    Calls Tryd.prog 54 #[] w fun e w' => e = .returned (.slice (some ⟨w.heap.size, 0, none⟩) 64 64) ∧ w' = w.alloc (.cells (kL.map u32v).toArray 77) := by
  go_enter Tryd.func54, Tryd.ntmps54
  go_wp2
  go_ret
  exact ⟨rfl, rfl⟩
theorem rbegin_any (w : World) :
    Calls Tryd.prog 46 #[] w fun e w' => e = .returned (.agg st0.cells.toArray) ∧ Below w.heap.size w w' := by
  go_enter Tryd.func46, Tryd.ntmps46
  go_wp2
  exact bodyPost_ret (v := .agg st0.cells.toArray) (results_cell_row Tryd.results46 _ _ w.heap.size 78 _ (0, 0) _ rfl (heap_alloc_last _ _) Tryd.underlying78 rfl size8) rfl ⟨rfl, (Below.refl _ _).alloc (Nat.le_refl _) _⟩

/-- What the reference's Step holds: the state, the block, the result's place, the constants, the first k words. -/
def RI (w wr : World) (s : St) (l : List UInt8) (k : Nat) : Prop :=
  Below w.heap.size w wr ∧ wr.heap[w.heap.size]? = some (.cells s.cells.toArray 78 (0, 0)) ∧ wr.heap[w.heap.size + 1]? = some (.cells (l.map u8v).toArray 69 (0, 0)) ∧
  wr.heap[w.heap.size + 1 + 1]? = some (.cells (List.replicate 8 (Value.int .u32 0)).toArray 78 (0, 0)) ∧
  wr.heap[w.heap.size + 1 + 1 + 1]? = some (.cells (kL.map u32v).toArray 77 (0, 0)) ∧ wr.heap[w.heap.size + 1 + 1 + 1 + 1]? = some (.cells (wpad l k).toArray 77 (0, 0))
theorem RI.below {w wr w1 : World} {s : St} {l : List UInt8} {k : Nat} (h : RI w wr s l k) (hb : Below wr.heap.size wr w1) : RI w w1 s l k := by
  obtain ⟨h1, h2, h3, h4, h5, h6⟩ := h
  exact ⟨h1.trans (hb.mono h1.size), heap_below h2 hb, heap_below h3 hb, heap_below h4 hb, heap_below h5 hb, heap_below h6 hb⟩
theorem RI.set {w wr : World} {s : St} {l : List UInt8} {k : Nat} (h : RI w wr s l k) (hk : k < 64) (x : UInt32) (hx : x = if k < 16 then word4 l (4 * k) else wNext (wL l k)) :
    RI w (wr.setCell ⟨w.heap.size + 1 + 1 + 1 + 1, k, none⟩ (u32v x)) s l (k + 1) := by
  obtain ⟨h1, h2, h3, h4, h5, h6⟩ := h
  refine ⟨h1.setCell (by show w.heap.size ≤ w.heap.size + 1 + 1 + 1 + 1; omega) _, ?_, ?_, ?_, ?_, ?_⟩
  · rw [heap_setCell_other _ _ _ _ (by show _ ≠ w.heap.size + 1 + 1 + 1 + 1; omega)]; exact h2
  · rw [heap_setCell_other _ _ _ _ (by show _ ≠ w.heap.size + 1 + 1 + 1 + 1; omega)]; exact h3
  · rw [heap_setCell_other _ _ _ _ (by show _ ≠ w.heap.size + 1 + 1 + 1 + 1; omega)]; exact h4
  · rw [heap_setCell_other _ _ _ _ (by show _ ≠ w.heap.size + 1 + 1 + 1 + 1; omega)]; exact h5
  · rw [heap_setCell_same _ _ _ _ _ _ h6, ← wpad_set l k hk x hx]; simp
theorem RI.byte {w wr : World} {s : St} {l : List UInt8} {k : Nat} (h : RI w wr s l k) (j : Nat) (hj : j < l.length) : wr.cell? ⟨w.heap.size + 1, j, none⟩ = some (.int .u8 (l[j].toNat : Int)) := by
  rw [cell_of_row _ _ _ _ _ _ h.2.2.1]; simp [u8v, hj]
theorem RI.get {w wr : World} {s : St} {l : List UInt8} {k : Nat} (h : RI w wr s l k) (j : Nat) (hj : j < k) : wr.cell? ⟨w.heap.size + 1 + 1 + 1 + 1, j, none⟩ = some (u32v ((wL l k).getD j 0)) := by
  rw [cell_of_row _ _ _ _ _ _ h.2.2.2.2.2]; simpa using wpad_get l k j hj
theorem RI.con {w wr : World} {s : St} {l : List UInt8} {k : Nat} (h : RI w wr s l k) (j : Nat) (hj : j < 64) : wr.cell? ⟨w.heap.size + 1 + 1 + 1, j, none⟩ = some (u32v (kL.getD j 0)) := by
  rw [cell_of_row _ _ _ _ _ _ h.2.2.2.2.1]
  have : j < kL.length := hj
  simp [this]
theorem RI.at {w wr : World} {s : St} {l : List UInt8} {k : Nat} (h : RI w wr s l k) (hk : k ≤ 64) (j : Nat) (hj : j < 64) : ∃ u, wr.cell? ⟨w.heap.size + 1 + 1 + 1 + 1, j, none⟩ = some u := by
  rw [cell_of_row _ _ _ _ _ _ h.2.2.2.2.2]
  exact ⟨(wpad l k)[j]'(by rw [wpad_length l k hk]; exact hj), by simp⟩
theorem RI.free {w wr : World} {s : St} {l : List UInt8} {k : Nat} (h : RI w wr s l k) (j : Nat) : wr.frozen? ⟨w.heap.size + 1 + 1 + 1 + 1, j, none⟩ = false := frozen_of_row _ _ _ _ _ h.2.2.2.2.2
theorem own_full {w : World} {base n g : Nat} {e : TypeId} {xs : List Value} (h : w.ownsRow base e 1 (.slice (some ⟨g, 0, none⟩) n n) n xs) (hn : 0 < n) : w.heap[g]? = some (.cells xs.toArray e (0, 0)) := by
  obtain ⟨_, ⟨h1, _⟩ | ⟨g', cap, cur, h1, _, h2, _, _, h3, h4⟩⟩ := h
  · cases h1
  · simp only [Value.slice.injEq, Option.some.injEq, Addr.mk.injEq] at h1
    obtain ⟨⟨rfl, _, _⟩, _, rfl⟩ := h1
    rw [h2, ← h4, List.take_of_length_le (by simp; omega)]
theorem RI.start (w w1 : World) (s : St) (l : List UInt8)
    (hb : Below (w.heap.size + 1 + 1 + 1 + 1) ((((w.alloc (.cells s.cells.toArray 78)).alloc (.cells (l.map u8v).toArray 69)).alloc (.cells (List.replicate 8 (Value.int .u32 0)).toArray 78)).alloc (.cells (kL.map u32v).toArray 77)) w1)
    (hw : w1.heap[w.heap.size + 1 + 1 + 1 + 1]? = some (.cells (List.replicate 64 (Value.int .u32 0)).toArray 77 (0, 0))) : RI w w1 s l 0 := by
  have hl : ∀ (w' : World) o g, g = w'.heap.size → (w'.alloc o).heap[g]? = some o := fun w' o g h => by rw [h, heap_alloc_last]
  refine ⟨?_, ?_, ?_, ?_, ?_, ?_⟩
  · exact Below.trans (((((Below.refl _ _).alloc (Nat.le_refl _) _).alloc (by simp) _).alloc (by simp <;> omega) _).alloc (by simp <;> omega) _) (hb.mono (by omega))
  · rw [hb.block _ (by omega), Below.heap_alloc _ _ _ (by simp <;> omega), Below.heap_alloc _ _ _ (by simp <;> omega), Below.heap_alloc _ _ _ (by simp), hl _ _ _ rfl]
  · rw [hb.block _ (by omega), Below.heap_alloc _ _ _ (by simp <;> omega), Below.heap_alloc _ _ _ (by simp), hl _ _ _ (by simp)]
  · rw [hb.block _ (by omega), Below.heap_alloc _ _ _ (by simp), hl _ _ _ (by simp)]
  · rw [hb.block _ (by omega), hl _ _ _ (by simp)]
  · rw [hw]; rfl
theorem word4_sum (l : List UInt8) (i : Nat) (h : i + 4 ≤ l.length) : iv (word4 l i) = (((l[i].toNat * 16777216 + l[i + 1].toNat * 65536 + l[i + 2].toNat * 256 + l[i + 3].toNat : Nat)) : Int) := by
  rw [word4_iv l i h]
  congr 1
  rw [takeN_succ _ 3 (by rw [List.length_drop]; omega), takeN_succ _ 2 (by rw [List.length_drop]; omega), takeN_succ _ 1 (by rw [List.length_drop]; omega), takeN_succ _ 0 (by rw [List.length_drop]; omega), takeN_zero]
  simp only [List.getElem_drop, Nat.add_zero]
  omega
theorem size8c (s : St) : (Tryd.prog.info? 78).map (·.size) = some s.cells.length := size8
theorem RI.next {w wr : World} {s : St} {l : List UInt8} {k : Nat} (h : RI w wr s l k) (hk : k < 64) (h16 : 16 ≤ k) :
    RI w (wr.setCell ⟨w.heap.size + 1 + 1 + 1 + 1, k, none⟩ (.int .u32 (IntKind.u32.wrap (IntKind.u32.wrap (IntKind.u32.wrap
      (bits BinOp.xor IntKind.u32 (iv (rotr ((wL l k)[k - 2]?.getD 0) 17 ^^^ rotr ((wL l k)[k - 2]?.getD 0) 19)) (iv ((wL l k)[k - 2]?.getD 0) / 1024) + iv ((wL l k)[k - 7]?.getD 0)) +
      bits BinOp.xor IntKind.u32 (iv (rotr ((wL l k)[k - 15]?.getD 0) 7 ^^^ rotr ((wL l k)[k - 15]?.getD 0) 18)) (iv ((wL l k)[k - 15]?.getD 0) / 8)) + iv ((wL l k)[k - 16]?.getD 0))))).drew s l (k + 1) := by
  have sh10 : ∀ x : UInt32, iv x / (1024 : Int) = iv (x >>> 10) := fun x => w_shr x 10 (by omega)
  have sh3 : ∀ x : UInt32, iv x / (8 : Int) = iv (x >>> 3) := fun x => w_shr x 3 (by omega)
  simp only [sh10, sh3, w_xor, w_add]
  refine (h.set hk _ ?_).below (Gr.drew _)
  rw [if_neg (by omega), wNext, wL_length]
  simp only [List.getD_eq_getElem?_getD]
  show sS1 _ + _ + sS0 _ + _ = _
  ac_rfl
theorem RI.keep {w wr w' : World} {s : St} {l : List UInt8} {k gv : Nat} (h : RI w wr s l k) (hgv : w.heap.size + 4 < gv) (hb : ∀ B w0, B ≤ gv → Below B w0 wr → Below B w0 w') (ho : ∀ j, j ≠ gv → w'.heap[j]? = wr.heap[j]?) : RI w w' s l k := by
  obtain ⟨h1, h2, h3, h4, h5, h6⟩ := h
  exact ⟨hb _ _ (by omega) h1, by rw [ho _ (by omega)]; exact h2, by rw [ho _ (by omega)]; exact h3, by rw [ho _ (by omega)]; exact h4, by rw [ho _ (by omega)]; exact h5, by rw [ho _ (by omega)]; exact h6⟩
/-- Beside it: the state of the rounds. -/
def VI (w wr : World) (s : St) (l : List UInt8) (gv : Nat) (v : List UInt32) : Prop := RI w wr s l 64 ∧ wr.heap[gv]? = some (.cells (v.map u32v).toArray 78 (0, 0)) ∧ w.heap.size + 4 < gv
theorem VI.below {w wr w1 : World} {s : St} {l : List UInt8} {gv : Nat} {v : List UInt32} (h : VI w wr s l gv v) (hb : Below wr.heap.size wr w1) : VI w w1 s l gv v := ⟨h.1.below hb, heap_below h.2.1 hb, h.2.2⟩
theorem VI.get {w wr : World} {s : St} {l : List UInt8} {gv : Nat} {v : List UInt32} (h : VI w wr s l gv v) (j : Nat) (x : UInt32) (hj : v[j]? = some x) : wr.cell? ⟨gv, j, none⟩ = some (u32v x) := by
  rw [cell_of_row _ _ _ _ _ _ h.2.1]; simp [hj]
theorem VI.free {w wr : World} {s : St} {l : List UInt8} {gv : Nat} {v : List UInt32} (h : VI w wr s l gv v) (j : Nat) : wr.frozen? ⟨gv, j, none⟩ = false := frozen_of_row _ _ _ _ _ h.2.1
theorem VI.set {w wr : World} {s : St} {l : List UInt8} {gv : Nat} {v : List UInt32} (h : VI w wr s l gv v) (j : Nat) (x : UInt32) : VI w (wr.setCell ⟨gv, j, none⟩ (u32v x)) s l gv (v.set j x) := by
  have hg := h.2.2
  refine ⟨h.1.keep hg (fun B w0 hB hb => hb.setCell hB _) (fun i hi => heap_setCell_other _ _ _ _ hi), ?_, h.2.2⟩
  rw [heap_setCell_same _ _ _ _ _ _ h.2.1]; simp
/-- The sums of the first k. -/
def mixL (s t : St) (k : Nat) : List UInt32 := (List.range 8).map fun j => if j < k then t.list.getD j 0 + s.list.getD j 0 else t.list.getD j 0
theorem mixL_zero (s t : St) : mixL s t 0 = t.list := by
  obtain ⟨a, b, c, d, e, f, g, h⟩ := t
  rfl
theorem mixL_full (s t : St) : mixL s t 8 = (s.add t).list := by
  obtain ⟨a, b, c, d, e, f, g, h⟩ := t
  obtain ⟨a', b', c', d', e', f', g', h'⟩ := s
  show [a + a', b + b', c + c', d + d', e + e', f + f', g + g', h + h'] = [a' + a, b' + b, c' + c, d' + d, e' + e, f' + f, g' + g, h' + h]
  simp only [UInt32.add_comm]
theorem mixL_get (s t : St) (k : Nat) (h : k < 8) : (mixL s t k)[k]? = some (t.list.getD k 0) := by simp [mixL, h]
theorem mixL_set (s t : St) (k : Nat) (h : k < 8) : (mixL s t k).set k (t.list.getD k 0 + s.list.getD k 0) = mixL s t (k + 1) := by
  apply List.ext_getElem
  · simp [mixL]
  · intro j h1 h2
    rw [List.getElem_set]
    simp only [mixL, List.getElem_map, List.getElem_range]
    by_cases e : k = j
    · subst e; rw [if_pos rfl, if_pos (by omega)]
    · rw [if_neg e]
      by_cases h' : j < k
      · rw [if_pos h', if_pos (by omega)]
      · rw [if_neg h', if_neg (by omega)]
set_option maxRecDepth 100000 in
set_option maxHeartbeats 4000000 in
theorem rstep_any (s : St) (l : List UInt8) (hl : l.length = 64) (w : World) :
    Calls Tryd.prog 47 #[.agg s.cells.toArray, .agg (l.map u8v).toArray] w fun e w' => e = .returned (.agg (s.step l).cells.toArray) ∧ Below w.heap.size w w' := by
  have HL := Lib.hid hl
  clear hl
  go_enter Tryd.func47, Tryd.ntmps47
  obtain ⟨i0, hi, hz0, hz1, hz2⟩ := info_parts info_u32
  go_wp2_with (first | (go_at_call 54; refine (table_any _).mono ?_; rintro e w' ⟨rfl, rfl⟩) | (at_make; refine wpList_make_full _ rfl _ _ 84 rfl (w.heap.size + 1 + 1 + 1 + 1) 77 i0 (.int .u32 0) 1 Tryd.underlying84 hi hz0 hz1 _ _ _ _ 64 rfl rfl rfl rfl ?c1 ?c2 ?c3 ?_))
  case c1 => rw [hz2]; omega
  case c2 => unfold maxLen; omega
  case c3 => simp
  intro w1 hown hg
  have hr : RI w w1 s l 0 := RI.start w w1 s l ((Below.refl _ _).grown hg (by simp) (fun _ h => by cases h)) (by
    rw [toList_madeCells_one] at hown
    exact own_full hown (by omega))
  have HR := Lib.hid hr
  clear hr hown hg hi hz0 hz1 hz2 i0
  go_wp2
  go_loopw [7] (fun i7 wr => ∃ k : Nat, k ≤ 64 ∧ i7 = .int .i64 k ∧ Hid (RI w wr s l k)) (fun i7 _ => 64 - (intOf i7).toNat)
  case atStart => exact ⟨0, by omega, rfl, HR⟩
  case round =>
    clear HR
    obtain ⟨k, hk, rfl, HR⟩ := hrel
    by_cases hlt : k < 64
    · by_cases h16 : k < 16
      · have hL := HL.out
        have b0 : ∀ w', Gr wr.drew w' → w'.cell? ⟨w.heap.size + 1, 4 * k, none⟩ = some (.int .u8 (l[4 * k].toNat : Int)) := fun w' hg => (HR.out.below ((Gr.drew _).trans hg)).byte (4 * k) (by omega)
        have b1 : ∀ w', Gr wr.drew w' → w'.cell? ⟨w.heap.size + 1, 4 * k + 1, none⟩ = some (.int .u8 (l[4 * k + 1].toNat : Int)) := fun w' hg => (HR.out.below ((Gr.drew _).trans hg)).byte (4 * k + 1) (by omega)
        have b2 : ∀ w', Gr wr.drew w' → w'.cell? ⟨w.heap.size + 1, 4 * k + 2, none⟩ = some (.int .u8 (l[4 * k + 2].toNat : Int)) := fun w' hg => (HR.out.below ((Gr.drew _).trans hg)).byte (4 * k + 2) (by omega)
        have b3 : ∀ w', Gr wr.drew w' → w'.cell? ⟨w.heap.size + 1, 4 * k + 3, none⟩ = some (.int .u8 (l[4 * k + 3].toNat : Int)) := fun w' hg => (HR.out.below ((Gr.drew _).trans hg)).byte (4 * k + 3) (by omega)
        have hw := word4_sum l (4 * k) (by omega)
        obtain ⟨x0, y0⟩ : ∃ x, x = l[4 * k].toNat := ⟨_, rfl⟩
        obtain ⟨x1, y1⟩ : ∃ x, x = l[4 * k + 1].toNat := ⟨_, rfl⟩
        obtain ⟨x2, y2⟩ : ∃ x, x = l[4 * k + 2].toNat := ⟨_, rfl⟩
        obtain ⟨x3, y3⟩ : ∃ x, x = l[4 * k + 3].toNat := ⟨_, rfl⟩
        have z0 : x0 < 256 := by rw [y0]; exact UInt8.toNat_lt _
        have z1 : x1 < 256 := by rw [y1]; exact UInt8.toNat_lt _
        have z2 : x2 < 256 := by rw [y2]; exact UInt8.toNat_lt _
        have z3 : x3 < 256 := by rw [y3]; exact UInt8.toNat_lt _
        rw [← y0] at b0 hw
        rw [← y1] at b1 hw
        rw [← y2] at b2 hw
        rw [← y3] at b3 hw
        have HW := Lib.hid hw
        clear y0 y1 y2 y3 hL hw
        have e0 : IntKind.i64.wrap (4 * (k : Int)) = 4 * (k : Int) := IntWalk.i64_in _ (by omega)
        have e1 : IntKind.i64.wrap (4 * (k : Int) + 1) = 4 * (k : Int) + 1 := IntWalk.i64_in _ (by omega)
        have e2 : IntKind.i64.wrap (4 * (k : Int) + 2) = 4 * (k : Int) + 2 := IntWalk.i64_in _ (by omega)
        have e3 : IntKind.i64.wrap (4 * (k : Int) + 3) = 4 * (k : Int) + 3 := IntWalk.i64_in _ (by omega)
        have t0 : (4 * (k : Int)).toNat = 4 * k := by omega
        have t1 : (4 * (k : Int) + 1).toNat = 4 * k + 1 := by omega
        have t2 : (4 * (k : Int) + 2).toNat = 4 * k + 2 := by omega
        have t3 : (4 * (k : Int) + 3).toNat = 4 * k + 3 := by omega
        have p0 : 0 ≤ 4 * (k : Int) := by omega
        have p1 : 0 ≤ 4 * (k : Int) + 1 := by omega
        have p2 : 0 ≤ 4 * (k : Int) + 2 := by omega
        have p3 : 0 ≤ 4 * (k : Int) + 3 := by omega
        have q0 : 4 * (k : Int) < 64 := by omega
        have q1 : 4 * (k : Int) + 1 < 64 := by omega
        have q2 : 4 * (k : Int) + 2 < 64 := by omega
        have q3 : 4 * (k : Int) + 3 < 64 := by omega
        have qk : (k : Int) < 64 := by omega
        have m0 : IntKind.u32.wrap ((x0 : Int) * 16777216) = (x0 : Int) * 16777216 := by rw [IntKind.wrap_u32']; omega
        have m1 : IntKind.u32.wrap ((x1 : Int) * 65536) = (x1 : Int) * 65536 := by rw [IntKind.wrap_u32']; omega
        have m2 : IntKind.u32.wrap ((x2 : Int) * 256) = (x2 : Int) * 256 := by rw [IntKind.wrap_u32']; omega
        have n0 : IntKind.u32.wrap (x0 : Int) = (x0 : Int) := by rw [IntKind.wrap_u32']; omega
        have n1 : IntKind.u32.wrap (x1 : Int) = (x1 : Int) := by rw [IntKind.wrap_u32']; omega
        have n2 : IntKind.u32.wrap (x2 : Int) = (x2 : Int) := by rw [IntKind.wrap_u32']; omega
        have n3 : IntKind.u32.wrap (x3 : Int) = (x3 : Int) := by rw [IntKind.wrap_u32']; omega
        have a1 : IntKind.u32.wrap ((x0 : Int) * 16777216 + (x1 : Int) * 65536) = (x0 : Int) * 16777216 + (x1 : Int) * 65536 := by rw [IntKind.wrap_u32']; omega
        have a2 : IntKind.u32.wrap ((x0 : Int) * 16777216 + (x1 : Int) * 65536 + (x2 : Int) * 256) = (x0 : Int) * 16777216 + (x1 : Int) * 65536 + (x2 : Int) * 256 := by rw [IntKind.wrap_u32']; omega
        have a3 : IntKind.u32.wrap ((x0 : Int) * 16777216 + (x1 : Int) * 65536 + (x2 : Int) * 256 + (x3 : Int)) = iv (word4 l (4 * k)) := by rw [HW.out, IntKind.wrap_u32']; omega
        obtain ⟨u, hu⟩ := HR.out.at (by omega) k (by omega)
        have hf := HR.out.free k
        go_wp2
        refine wp_region_G 32 Gr (by kernel_rfl) ?_
        -- 0: slot 25
        refine wpG_take preGr (i := 0) (v := ?_) (by kernel_rfl) (some 25) (by kernel_rfl) rfl (by kernel_rfl) (by kernel_rfl) (by kernel_rfl) (fun _ _ _ h => h) (by rfl) (fun w' hw' => ?_) rfl ?_
        rotate_left
        · go_simp
          with_reducible rfl
        simp only [Act.put, List.setIfInBounds_toArray, List.set_cons_zero, List.set_cons_succ]
        -- 1: slot 26
        refine wpG_take preGr (i := 1) (v := ?_) (by kernel_rfl) (some 26) (by kernel_rfl) rfl (by kernel_rfl) (by kernel_rfl) (by kernel_rfl) (fun _ _ _ h => h) (by rfl) (fun w' hw' => ?_) rfl ?_
        rotate_left
        · go_simp
          with_reducible rfl
        simp only [Act.put, List.setIfInBounds_toArray, List.set_cons_zero, List.set_cons_succ]
        -- 2: slot 27
        refine wpG_take preGr (i := 2) (v := ?_) (by kernel_rfl) (some 27) (by kernel_rfl) rfl (by kernel_rfl) (by kernel_rfl) (by kernel_rfl) (fun _ _ _ h => h) (by rfl) (fun w' hw' => ?_) rfl ?_
        rotate_left
        · go_simp
          with_reducible rfl
        simp only [Act.put, List.setIfInBounds_toArray, List.set_cons_zero, List.set_cons_succ]
        -- 3: slot 28
        refine wpG_take preGr (i := 3) (v := ?_) (by kernel_rfl) (some 28) (by kernel_rfl) rfl (by kernel_rfl) (by kernel_rfl) (by kernel_rfl) (fun _ _ _ h => h) (by rfl) (fun w' hw' => ?_) rfl ?_
        rotate_left
        · go_simp
          with_reducible rfl
        simp only [Act.put, List.setIfInBounds_toArray, List.set_cons_zero, List.set_cons_succ]
        -- 4: slot 29
        refine wpG_take preGr (i := 4) (v := ?_) (by kernel_rfl) (some 29) (by kernel_rfl) rfl (by kernel_rfl) (by kernel_rfl) (by kernel_rfl) (fun _ _ _ h => h) (by rfl) (fun w' hw' => ?_) rfl ?_
        rotate_left
        · go_simp
          with_reducible rfl
        simp only [Act.put, List.setIfInBounds_toArray, List.set_cons_zero, List.set_cons_succ]
        -- 5: slot 30
        refine wpG_take preGr (i := 5) (v := ?_) (by kernel_rfl) (some 30) (by kernel_rfl) rfl (by kernel_rfl) (by kernel_rfl) (by kernel_rfl) (fun _ _ _ h => h) (by rfl) (fun w' hw' => ?_) rfl ?_
        rotate_left
        · go_simp
          with_reducible rfl
        simp only [Act.put, List.setIfInBounds_toArray, List.set_cons_zero, List.set_cons_succ]
        -- 6: slot 31
        refine wpG_take preGr (i := 6) (v := ?_) (by kernel_rfl) (some 31) (by kernel_rfl) rfl (by kernel_rfl) (by kernel_rfl) (by kernel_rfl) (fun _ _ _ h => h) (by rfl) (fun w' hw' => ?_) rfl ?_
        rotate_left
        · go_simp
          with_reducible rfl
        simp only [Act.put, List.setIfInBounds_toArray, List.set_cons_zero, List.set_cons_succ]
        -- 7: slot 32
        refine wpG_take preGr (i := 7) (v := ?_) (by kernel_rfl) (some 32) (by kernel_rfl) rfl (by kernel_rfl) (by kernel_rfl) (by kernel_rfl) (fun _ _ _ h => h) (by rfl) (fun w' hw' => ?_) rfl ?_
        rotate_left
        · go_simp
          with_reducible rfl
        simp only [Act.put, List.setIfInBounds_toArray, List.set_cons_zero, List.set_cons_succ]
        -- 8: slot 33
        refine wpG_take preGr (i := 8) (v := ?_) (by kernel_rfl) (some 33) (by kernel_rfl) rfl (by kernel_rfl) (by kernel_rfl) (by kernel_rfl) (fun _ _ _ h => h) (by rfl) (fun w' hw' => ?_) rfl ?_
        rotate_left
        · go_simp
          with_reducible rfl
        simp only [Act.put, List.setIfInBounds_toArray, List.set_cons_zero, List.set_cons_succ]
        -- 9: slot 34
        refine wpG_take preGr (i := 9) (v := ?_) (by kernel_rfl) (some 34) (by kernel_rfl) rfl (by kernel_rfl) (by kernel_rfl) (by kernel_rfl) (fun _ _ _ h => h) (by rfl) (fun w' hw' => ?_) rfl ?_
        rotate_left
        · go_simp
          with_reducible rfl
        simp only [Act.put, List.setIfInBounds_toArray, List.set_cons_zero, List.set_cons_succ]
        -- 10: slot 35
        refine wpG_take preGr (i := 10) (v := ?_) (by kernel_rfl) (some 35) (by kernel_rfl) rfl (by kernel_rfl) (by kernel_rfl) (by kernel_rfl) (fun _ _ _ h => h) (by rfl) (fun w' hw' => ?_) rfl ?_
        rotate_left
        · go_simp
          with_reducible rfl
        simp only [Act.put, List.setIfInBounds_toArray, List.set_cons_zero, List.set_cons_succ]
        -- 11: slot 36
        refine wpG_take preGr (i := 11) (v := ?_) (by kernel_rfl) (some 36) (by kernel_rfl) rfl (by kernel_rfl) (by kernel_rfl) (by kernel_rfl) (fun _ _ _ h => h) (by rfl) (fun w' hw' => ?_) rfl ?_
        rotate_left
        · go_simp
          with_reducible rfl
        simp only [Act.put, List.setIfInBounds_toArray, List.set_cons_zero, List.set_cons_succ]
        -- 12: slot 37
        refine wpG_take preGr (i := 12) (v := ?_) (by kernel_rfl) (some 37) (by kernel_rfl) rfl (by kernel_rfl) (by kernel_rfl) (by kernel_rfl) (fun _ _ _ h => h) (by rfl) (fun w' hw' => ?_) rfl ?_
        rotate_left
        · go_simp
          with_reducible rfl
        simp only [Act.put, List.setIfInBounds_toArray, List.set_cons_zero, List.set_cons_succ]
        -- 13: slot 38
        refine wpG_take preGr (i := 13) (v := ?_) (by kernel_rfl) (some 38) (by kernel_rfl) rfl (by kernel_rfl) (by kernel_rfl) (by kernel_rfl) (fun _ _ _ h => h) (by rfl) (fun w' hw' => ?_) rfl ?_
        rotate_left
        · go_simp
          with_reducible rfl
        simp only [Act.put, List.setIfInBounds_toArray, List.set_cons_zero, List.set_cons_succ]
        -- 14: slot 39
        refine wpG_take preGr (i := 14) (v := ?_) (by kernel_rfl) (some 39) (by kernel_rfl) rfl (by kernel_rfl) (by kernel_rfl) (by kernel_rfl) (fun _ _ _ h => h) (by rfl) (fun w' hw' => ?_) rfl ?_
        rotate_left
        · go_simp
          with_reducible rfl
        simp only [Act.put, List.setIfInBounds_toArray, List.set_cons_zero, List.set_cons_succ]
        -- 15: slot 40
        refine wpG_take preGr (i := 15) (v := ?_) (by kernel_rfl) (some 40) (by kernel_rfl) rfl (by kernel_rfl) (by kernel_rfl) (by kernel_rfl) (fun _ _ _ h => h) (by rfl) (fun w' hw' => ?_) rfl ?_
        rotate_left
        · go_simp
          with_reducible rfl
        simp only [Act.put, List.setIfInBounds_toArray, List.set_cons_zero, List.set_cons_succ]
        -- 16: slot 41
        refine wpG_take preGr (i := 16) (v := ?_) (by kernel_rfl) (some 41) (by kernel_rfl) rfl (by kernel_rfl) (by kernel_rfl) (by kernel_rfl) (fun _ _ _ h => h) (by rfl) (fun w' hw' => ?_) rfl ?_
        rotate_left
        · go_simp
          with_reducible rfl
        simp only [Act.put, List.setIfInBounds_toArray, List.set_cons_zero, List.set_cons_succ]
        -- 17: slot 42
        refine wpG_take preGr (i := 17) (v := ?_) (by kernel_rfl) (some 42) (by kernel_rfl) rfl (by kernel_rfl) (by kernel_rfl) (by kernel_rfl) (fun _ _ _ h => h) (by rfl) (fun w' hw' => ?_) rfl ?_
        rotate_left
        · go_simp
          with_reducible rfl
        simp only [Act.put, List.setIfInBounds_toArray, List.set_cons_zero, List.set_cons_succ]
        -- 18: slot 43
        refine wpG_take preGr (i := 18) (v := ?_) (by kernel_rfl) (some 43) (by kernel_rfl) rfl (by kernel_rfl) (by kernel_rfl) (by kernel_rfl) (fun _ _ _ h => h) (by rfl) (fun w' hw' => ?_) rfl ?_
        rotate_left
        · go_simp
          with_reducible rfl
        simp only [Act.put, List.setIfInBounds_toArray, List.set_cons_zero, List.set_cons_succ]
        -- 19: slot 44
        refine wpG_take preGr (i := 19) (v := ?_) (by kernel_rfl) (some 44) (by kernel_rfl) rfl (by kernel_rfl) (by kernel_rfl) (by kernel_rfl) (fun _ _ _ h => h) (by rfl) (fun w' hw' => ?_) rfl ?_
        rotate_left
        · go_simp
          with_reducible rfl
        simp only [Act.put, List.setIfInBounds_toArray, List.set_cons_zero, List.set_cons_succ]
        -- 20: slot 45
        refine wpG_take preGr (i := 20) (v := ?_) (by kernel_rfl) (some 45) (by kernel_rfl) rfl (by kernel_rfl) (by kernel_rfl) (by kernel_rfl) (fun _ _ _ h => h) (by rfl) (fun w' hw' => ?_) rfl ?_
        rotate_left
        · go_simp
          with_reducible rfl
        simp only [Act.put, List.setIfInBounds_toArray, List.set_cons_zero, List.set_cons_succ]
        -- 21: slot 46
        refine wpG_take preGr (i := 21) (v := ?_) (by kernel_rfl) (some 46) (by kernel_rfl) rfl (by kernel_rfl) (by kernel_rfl) (by kernel_rfl) (fun _ _ _ h => h) (by rfl) (fun w' hw' => ?_) rfl ?_
        rotate_left
        · go_simp
          with_reducible rfl
        simp only [Act.put, List.setIfInBounds_toArray, List.set_cons_zero, List.set_cons_succ]
        -- 22: slot 47
        refine wpG_take preGr (i := 22) (v := ?_) (by kernel_rfl) (some 47) (by kernel_rfl) rfl (by kernel_rfl) (by kernel_rfl) (by kernel_rfl) (fun _ _ _ h => h) (by rfl) (fun w' hw' => ?_) rfl ?_
        rotate_left
        · go_simp
          with_reducible rfl
        simp only [Act.put, List.setIfInBounds_toArray, List.set_cons_zero, List.set_cons_succ]
        -- 23: slot 48
        refine wpG_take preGr (i := 23) (v := ?_) (by kernel_rfl) (some 48) (by kernel_rfl) rfl (by kernel_rfl) (by kernel_rfl) (by kernel_rfl) (fun _ _ _ h => h) (by rfl) (fun w' hw' => ?_) rfl ?_
        rotate_left
        · go_simp
          with_reducible rfl
        simp only [Act.put, List.setIfInBounds_toArray, List.set_cons_zero, List.set_cons_succ]
        -- 24: slot 49
        refine wpG_take preGr (i := 24) (v := ?_) (by kernel_rfl) (some 49) (by kernel_rfl) rfl (by kernel_rfl) (by kernel_rfl) (by kernel_rfl) (fun _ _ _ h => h) (by rfl) (fun w' hw' => ?_) rfl ?_
        rotate_left
        · go_simp
          with_reducible rfl
        simp only [Act.put, List.setIfInBounds_toArray, List.set_cons_zero, List.set_cons_succ]
        -- 25: slot 50
        refine wpG_take preGr (i := 25) (v := ?_) (by kernel_rfl) (some 50) (by kernel_rfl) rfl (by kernel_rfl) (by kernel_rfl) (by kernel_rfl) (fun _ _ _ h => h) (by rfl) (fun w' hw' => ?_) rfl ?_
        rotate_left
        · go_simp
          with_reducible rfl
        simp only [Act.put, List.setIfInBounds_toArray, List.set_cons_zero, List.set_cons_succ]
        -- 26: slot 51
        refine wpG_take preGr (i := 26) (v := ?_) (by kernel_rfl) (some 51) (by kernel_rfl) rfl (by kernel_rfl) (by kernel_rfl) (by kernel_rfl) (fun _ _ _ h => h) (by rfl) (fun w' hw' => ?_) rfl ?_
        rotate_left
        · go_simp
          with_reducible rfl
        simp only [Act.put, List.setIfInBounds_toArray, List.set_cons_zero, List.set_cons_succ]
        -- 27: slot 52
        refine wpG_take preGr (i := 27) (v := ?_) (by kernel_rfl) (some 52) (by kernel_rfl) rfl (by kernel_rfl) (by kernel_rfl) (by kernel_rfl) (fun _ _ _ h => h) (by rfl) (fun w' hw' => ?_) rfl ?_
        rotate_left
        · go_simp
          with_reducible rfl
        simp only [Act.put, List.setIfInBounds_toArray, List.set_cons_zero, List.set_cons_succ]
        -- 28: slot 53
        refine wpG_take preGr (i := 28) (v := ?_) (by kernel_rfl) (some 53) (by kernel_rfl) rfl (by kernel_rfl) (by kernel_rfl) (by kernel_rfl) (fun _ _ _ h => h) (by rfl) (fun w' hw' => ?_) rfl ?_
        rotate_left
        · go_simp
          with_reducible rfl
        simp only [Act.put, List.setIfInBounds_toArray, List.set_cons_zero, List.set_cons_succ]
        -- 29: slot 54
        refine wpG_take preGr (i := 29) (v := ?_) (by kernel_rfl) (some 54) (by kernel_rfl) rfl (by kernel_rfl) (by kernel_rfl) (by kernel_rfl) (fun _ _ _ h => h) (by rfl) (fun w' hw' => ?_) rfl ?_
        rotate_left
        · go_simp
          with_reducible rfl
        simp only [Act.put, List.setIfInBounds_toArray, List.set_cons_zero, List.set_cons_succ]
        -- 30: slot 55
        refine wpG_take preGr (i := 30) (v := ?_) (by kernel_rfl) (some 55) (by kernel_rfl) rfl (by kernel_rfl) (by kernel_rfl) (by kernel_rfl) (fun _ _ _ h => h) (by rfl) (fun w' hw' => ?_) rfl ?_
        rotate_left
        · go_simp
          with_reducible rfl
        simp only [Act.put, List.setIfInBounds_toArray, List.set_cons_zero, List.set_cons_succ]
        -- 31: slot 56
        refine wpG_take preGr (i := 31) (v := ?_) (by kernel_rfl) (some 56) (by kernel_rfl) rfl (by kernel_rfl) (by kernel_rfl) (by kernel_rfl) (fun _ _ _ h => h) (by rfl) (fun w' hw' => ?_) rfl ?_
        rotate_left
        · go_simp
          with_reducible rfl
        simp only [Act.put, List.setIfInBounds_toArray, List.set_cons_zero, List.set_cons_succ]
        refine wpG_tail (i := 32) (by decide) rfl (by kernel_rfl) (by rfl) ?_
        go_simp
        try simp only [Act.put, List.setIfInBounds_toArray, List.set_cons_zero, List.set_cons_succ]
        refine wpG_done (by kernel_rfl) ?_ _
        go_wp2
        go_roundw
        case rel =>
          first | exact ⟨k + 1, by omega, by go_num, (HR.out.set hlt _ (by rw [if_pos h16])).below (Gr.drew _)⟩ | ((repeat apply Exists.intro); exact ⟨⟨k + 1, by omega, by go_num, (HR.out.set hlt _ (by rw [if_pos h16])).below (Gr.drew _)⟩, rfl⟩)
        case measure => simp [intOf]; omega
      · have qk : (k : Int) < 64 := by omega
        have h16' : ¬ (k : Int) < 16 := by omega
        have e2 : IntKind.i64.wrap ((k : Int) - 2) = (k : Int) - 2 := IntWalk.i64_in _ (by omega)
        have t2 : ((k : Int) - 2).toNat = k - 2 := by omega
        have p2 : 0 ≤ (k : Int) - 2 := by omega
        have r2 : 2 ≤ (k : Int) := by omega
        have q2 : (k : Int) - 2 < 64 := by omega
        have e15 : IntKind.i64.wrap ((k : Int) - 15) = (k : Int) - 15 := IntWalk.i64_in _ (by omega)
        have t15 : ((k : Int) - 15).toNat = k - 15 := by omega
        have p15 : 0 ≤ (k : Int) - 15 := by omega
        have r15 : 15 ≤ (k : Int) := by omega
        have q15 : (k : Int) - 15 < 64 := by omega
        have e7 : IntKind.i64.wrap ((k : Int) - 7) = (k : Int) - 7 := IntWalk.i64_in _ (by omega)
        have t7 : ((k : Int) - 7).toNat = k - 7 := by omega
        have p7 : 0 ≤ (k : Int) - 7 := by omega
        have r7 : 7 ≤ (k : Int) := by omega
        have q7 : (k : Int) - 7 < 64 := by omega
        have e16 : IntKind.i64.wrap ((k : Int) - 16) = (k : Int) - 16 := IntWalk.i64_in _ (by omega)
        have t16 : ((k : Int) - 16).toNat = k - 16 := by omega
        have p16 : 0 ≤ (k : Int) - 16 := by omega
        have r16 : 16 ≤ (k : Int) := by omega
        have q16 : (k : Int) - 16 < 64 := by omega
        have c2 : ∀ w', Gr wr.drew w' → w'.cell? ⟨w.heap.size + 1 + 1 + 1 + 1, k - 2, none⟩ = some (u32v ((wL l k).getD (k - 2) 0)) := fun w' hg => (HR.out.below ((Gr.drew _).trans hg)).get (k - 2) (by omega)
        have wAnd := w_and; have wOr := w_or; have wXor := w_xor; have wNot := w_not; have wAdd := w_add
        go_wp2
        refine wp_region_G 21 Gr (by kernel_rfl) ?_
        -- 0: slot 57
        refine wpG_take preGr (i := 0) (v := ?_) (by kernel_rfl) (some 57) (by kernel_rfl) rfl (by kernel_rfl) (by kernel_rfl) (by kernel_rfl) (fun _ _ _ h => h) (by rfl) (fun w' hw' => ?_) rfl ?_
        rotate_left
        · go_simp
          with_reducible rfl
        simp only [Act.put, List.setIfInBounds_toArray, List.set_cons_zero, List.set_cons_succ]
        -- 1: slot 58
        refine wpG_take preGr (i := 1) (v := ?_) (by kernel_rfl) (some 58) (by kernel_rfl) rfl (by kernel_rfl) (by kernel_rfl) (by kernel_rfl) (fun _ _ _ h => h) (by rfl) (fun w' hw' => ?_) rfl ?_
        rotate_left
        · go_simp
          with_reducible rfl
        simp only [Act.put, List.setIfInBounds_toArray, List.set_cons_zero, List.set_cons_succ]
        -- 2: slot 59
        refine wpG_take preGr (i := 2) (v := ?_) (by kernel_rfl) (some 59) (by kernel_rfl) rfl (by kernel_rfl) (by kernel_rfl) (by kernel_rfl) (fun _ _ _ h => h) (by rfl) (fun w' hw' => ?_) rfl ?_
        rotate_left
        · go_simp
          with_reducible rfl
        simp only [Act.put, List.setIfInBounds_toArray, List.set_cons_zero, List.set_cons_succ]
        -- 3: slot 60
        refine wpG_take preGr (i := 3) (v := ?_) (by kernel_rfl) (some 60) (by kernel_rfl) rfl (by kernel_rfl) (by kernel_rfl) (by kernel_rfl) (fun _ _ _ h => h) (by rfl) (fun w' hw' => ?_) rfl ?_
        rotate_left
        · go_simp
          with_reducible rfl
        simp only [Act.put, List.setIfInBounds_toArray, List.set_cons_zero, List.set_cons_succ]
        -- 4: slot 61
        refine wpG_take preGr (i := 4) (v := ?_) (by kernel_rfl) (some 61) (by kernel_rfl) rfl (by kernel_rfl) (by kernel_rfl) (by kernel_rfl) (fun _ _ _ h => h) (by rfl) (fun w' hw' => ?_) rfl ?_
        rotate_left
        · go_simp
          with_reducible rfl
        simp only [Act.put, List.setIfInBounds_toArray, List.set_cons_zero, List.set_cons_succ]
        -- 6: slot 63
        refine wpG_take preGr (i := 6) (v := ?_) (by kernel_rfl) (some 63) (by kernel_rfl) rfl (by kernel_rfl) (by kernel_rfl) (by kernel_rfl) (fun _ _ _ h => h) (by rfl) (fun w' hw' => ?_) rfl ?_
        rotate_left
        · go_simp
          with_reducible rfl
        simp only [Act.put, List.setIfInBounds_toArray, List.set_cons_zero, List.set_cons_succ]
        -- 7: slot 64
        refine wpG_take preGr (i := 7) (v := ?_) (by kernel_rfl) (some 64) (by kernel_rfl) rfl (by kernel_rfl) (by kernel_rfl) (by kernel_rfl) (fun _ _ _ h => h) (by rfl) (fun w' hw' => ?_) rfl ?_
        rotate_left
        · go_simp
          with_reducible rfl
        simp only [Act.put, List.setIfInBounds_toArray, List.set_cons_zero, List.set_cons_succ]
        -- 8: slot 65
        refine wpG_take preGr (i := 8) (v := ?_) (by kernel_rfl) (some 65) (by kernel_rfl) rfl (by kernel_rfl) (by kernel_rfl) (by kernel_rfl) (fun _ _ _ h => h) (by rfl) (fun w' hw' => ?_) rfl ?_
        rotate_left
        · go_simp
          with_reducible rfl
        simp only [Act.put, List.setIfInBounds_toArray, List.set_cons_zero, List.set_cons_succ]
        -- 9: slot 66
        refine wpG_take preGr (i := 9) (v := ?_) (by kernel_rfl) (some 66) (by kernel_rfl) rfl (by kernel_rfl) (by kernel_rfl) (by kernel_rfl) (fun _ _ _ h => h) (by rfl) (fun w' hw' => ?_) rfl ?_
        rotate_left
        · go_simp
          with_reducible rfl
        simp only [Act.put, List.setIfInBounds_toArray, List.set_cons_zero, List.set_cons_succ]
        -- 10: slot 67
        refine wpG_take preGr (i := 10) (v := ?_) (by kernel_rfl) (some 67) (by kernel_rfl) rfl (by kernel_rfl) (by kernel_rfl) (by kernel_rfl) (fun _ _ _ h => h) (by rfl) (fun w' hw' => ?_) rfl ?_
        rotate_left
        · go_simp
          with_reducible rfl
        simp only [Act.put, List.setIfInBounds_toArray, List.set_cons_zero, List.set_cons_succ]
        -- 13: slot 70
        refine wpG_take preGr (i := 13) (v := ?_) (by kernel_rfl) (some 70) (by kernel_rfl) rfl (by kernel_rfl) (by kernel_rfl) (by kernel_rfl) (fun _ _ _ h => h) (by rfl) (fun w' hw' => ?_) rfl ?_
        rotate_left
        · go_simp
          with_reducible rfl
        simp only [Act.put, List.setIfInBounds_toArray, List.set_cons_zero, List.set_cons_succ]
        -- 14: slot 71
        refine wpG_take preGr (i := 14) (v := ?_) (by kernel_rfl) (some 71) (by kernel_rfl) rfl (by kernel_rfl) (by kernel_rfl) (by kernel_rfl) (fun _ _ _ h => h) (by rfl) (fun w' hw' => ?_) rfl ?_
        rotate_left
        · go_simp
          with_reducible rfl
        simp only [Act.put, List.setIfInBounds_toArray, List.set_cons_zero, List.set_cons_succ]
        -- 15: slot 72
        refine wpG_take preGr (i := 15) (v := ?_) (by kernel_rfl) (some 72) (by kernel_rfl) rfl (by kernel_rfl) (by kernel_rfl) (by kernel_rfl) (fun _ _ _ h => h) (by rfl) (fun w' hw' => ?_) rfl ?_
        rotate_left
        · go_simp
          with_reducible rfl
        simp only [Act.put, List.setIfInBounds_toArray, List.set_cons_zero, List.set_cons_succ]
        -- 16: slot 73
        refine wpG_take preGr (i := 16) (v := ?_) (by kernel_rfl) (some 73) (by kernel_rfl) rfl (by kernel_rfl) (by kernel_rfl) (by kernel_rfl) (fun _ _ _ h => h) (by rfl) (fun w' hw' => ?_) rfl ?_
        rotate_left
        · go_simp
          with_reducible rfl
        simp only [Act.put, List.setIfInBounds_toArray, List.set_cons_zero, List.set_cons_succ]
        -- 17: slot 74
        refine wpG_take preGr (i := 17) (v := ?_) (by kernel_rfl) (some 74) (by kernel_rfl) rfl (by kernel_rfl) (by kernel_rfl) (by kernel_rfl) (fun _ _ _ h => h) (by rfl) (fun w' hw' => ?_) rfl ?_
        rotate_left
        · go_simp
          with_reducible rfl
        simp only [Act.put, List.setIfInBounds_toArray, List.set_cons_zero, List.set_cons_succ]
        -- 18: slot 75
        refine wpG_take preGr (i := 18) (v := ?_) (by kernel_rfl) (some 75) (by kernel_rfl) rfl (by kernel_rfl) (by kernel_rfl) (by kernel_rfl) (fun _ _ _ h => h) (by rfl) (fun w' hw' => ?_) rfl ?_
        rotate_left
        · go_simp
          with_reducible rfl
        simp only [Act.put, List.setIfInBounds_toArray, List.set_cons_zero, List.set_cons_succ]
        refine wpG_one (i := 5) rfl (by kernel_rfl) (by rfl) ?_
        go_simp
        refine (turned_any _ 17 (by omega) (by omega) _).mono ?_
        rintro e w' ⟨rfl, rfl⟩
        refine ⟨Gr.refl _, ?_⟩
        try simp only [Act.put, List.setIfInBounds_toArray, List.set_cons_zero, List.set_cons_succ]
        refine wpG_one (i := 11) rfl (by kernel_rfl) (by rfl) ?_
        go_simp
        refine (turned_any _ 19 (by omega) (by omega) _).mono ?_
        rintro e w' ⟨rfl, rfl⟩
        refine ⟨Gr.refl _, ?_⟩
        try simp only [Act.put, List.setIfInBounds_toArray, List.set_cons_zero, List.set_cons_succ]
        -- 12: slot 69
        refine wpG_take preGr (i := 12) (v := ?_) (by kernel_rfl) (some 69) (by kernel_rfl) rfl (by kernel_rfl) (by kernel_rfl) (by kernel_rfl) (fun _ _ _ h => h) (by rfl) (fun w' hw' => ?_) rfl ?_
        rotate_left
        · go_simp
          with_reducible rfl
        simp only [Act.put, List.setIfInBounds_toArray, List.set_cons_zero, List.set_cons_succ]
        -- 19: slot 76
        refine wpG_take preGr (i := 19) (v := ?_) (by kernel_rfl) (some 76) (by kernel_rfl) rfl (by kernel_rfl) (by kernel_rfl) (by kernel_rfl) (fun _ _ _ h => h) (by rfl) (fun w' hw' => ?_) rfl ?_
        rotate_left
        · go_simp
          with_reducible rfl
        simp only [Act.put, List.setIfInBounds_toArray, List.set_cons_zero, List.set_cons_succ]
        -- 20: slot 8
        refine wpG_take preGr (i := 20) (v := ?_) (by kernel_rfl) (some 8) (by kernel_rfl) rfl (by kernel_rfl) (by kernel_rfl) (by kernel_rfl) (fun _ _ _ h => h) (by rfl) (fun w' hw' => ?_) rfl ?_
        rotate_left
        · go_simp
          with_reducible rfl
        simp only [Act.put, List.setIfInBounds_toArray, List.set_cons_zero, List.set_cons_succ]
        refine wpG_done (by kernel_rfl) ?_ _
        clear c2
        have HR2 := Lib.hid (HR.out.below (Gr.drew wr))
        generalize wr.drew = wr2 at HR2 ⊢
        have c15 : ∀ w', Gr wr2.drew w' → w'.cell? ⟨w.heap.size + 1 + 1 + 1 + 1, k - 15, none⟩ = some (u32v ((wL l k).getD (k - 15) 0)) := fun w' hg => (HR2.out.below ((Gr.drew _).trans hg)).get (k - 15) (by omega)
        go_wp2
        refine wp_region_G 21 Gr (by kernel_rfl) ?_
        -- 0: slot 77
        refine wpG_take preGr (i := 0) (v := ?_) (by kernel_rfl) (some 77) (by kernel_rfl) rfl (by kernel_rfl) (by kernel_rfl) (by kernel_rfl) (fun _ _ _ h => h) (by rfl) (fun w' hw' => ?_) rfl ?_
        rotate_left
        · go_simp
          with_reducible rfl
        simp only [Act.put, List.setIfInBounds_toArray, List.set_cons_zero, List.set_cons_succ]
        -- 1: slot 78
        refine wpG_take preGr (i := 1) (v := ?_) (by kernel_rfl) (some 78) (by kernel_rfl) rfl (by kernel_rfl) (by kernel_rfl) (by kernel_rfl) (fun _ _ _ h => h) (by rfl) (fun w' hw' => ?_) rfl ?_
        rotate_left
        · go_simp
          with_reducible rfl
        simp only [Act.put, List.setIfInBounds_toArray, List.set_cons_zero, List.set_cons_succ]
        -- 2: slot 79
        refine wpG_take preGr (i := 2) (v := ?_) (by kernel_rfl) (some 79) (by kernel_rfl) rfl (by kernel_rfl) (by kernel_rfl) (by kernel_rfl) (fun _ _ _ h => h) (by rfl) (fun w' hw' => ?_) rfl ?_
        rotate_left
        · go_simp
          with_reducible rfl
        simp only [Act.put, List.setIfInBounds_toArray, List.set_cons_zero, List.set_cons_succ]
        -- 3: slot 80
        refine wpG_take preGr (i := 3) (v := ?_) (by kernel_rfl) (some 80) (by kernel_rfl) rfl (by kernel_rfl) (by kernel_rfl) (by kernel_rfl) (fun _ _ _ h => h) (by rfl) (fun w' hw' => ?_) rfl ?_
        rotate_left
        · go_simp
          with_reducible rfl
        simp only [Act.put, List.setIfInBounds_toArray, List.set_cons_zero, List.set_cons_succ]
        -- 4: slot 81
        refine wpG_take preGr (i := 4) (v := ?_) (by kernel_rfl) (some 81) (by kernel_rfl) rfl (by kernel_rfl) (by kernel_rfl) (by kernel_rfl) (fun _ _ _ h => h) (by rfl) (fun w' hw' => ?_) rfl ?_
        rotate_left
        · go_simp
          with_reducible rfl
        simp only [Act.put, List.setIfInBounds_toArray, List.set_cons_zero, List.set_cons_succ]
        -- 6: slot 83
        refine wpG_take preGr (i := 6) (v := ?_) (by kernel_rfl) (some 83) (by kernel_rfl) rfl (by kernel_rfl) (by kernel_rfl) (by kernel_rfl) (fun _ _ _ h => h) (by rfl) (fun w' hw' => ?_) rfl ?_
        rotate_left
        · go_simp
          with_reducible rfl
        simp only [Act.put, List.setIfInBounds_toArray, List.set_cons_zero, List.set_cons_succ]
        -- 7: slot 84
        refine wpG_take preGr (i := 7) (v := ?_) (by kernel_rfl) (some 84) (by kernel_rfl) rfl (by kernel_rfl) (by kernel_rfl) (by kernel_rfl) (fun _ _ _ h => h) (by rfl) (fun w' hw' => ?_) rfl ?_
        rotate_left
        · go_simp
          with_reducible rfl
        simp only [Act.put, List.setIfInBounds_toArray, List.set_cons_zero, List.set_cons_succ]
        -- 8: slot 85
        refine wpG_take preGr (i := 8) (v := ?_) (by kernel_rfl) (some 85) (by kernel_rfl) rfl (by kernel_rfl) (by kernel_rfl) (by kernel_rfl) (fun _ _ _ h => h) (by rfl) (fun w' hw' => ?_) rfl ?_
        rotate_left
        · go_simp
          with_reducible rfl
        simp only [Act.put, List.setIfInBounds_toArray, List.set_cons_zero, List.set_cons_succ]
        -- 9: slot 86
        refine wpG_take preGr (i := 9) (v := ?_) (by kernel_rfl) (some 86) (by kernel_rfl) rfl (by kernel_rfl) (by kernel_rfl) (by kernel_rfl) (fun _ _ _ h => h) (by rfl) (fun w' hw' => ?_) rfl ?_
        rotate_left
        · go_simp
          with_reducible rfl
        simp only [Act.put, List.setIfInBounds_toArray, List.set_cons_zero, List.set_cons_succ]
        -- 10: slot 87
        refine wpG_take preGr (i := 10) (v := ?_) (by kernel_rfl) (some 87) (by kernel_rfl) rfl (by kernel_rfl) (by kernel_rfl) (by kernel_rfl) (fun _ _ _ h => h) (by rfl) (fun w' hw' => ?_) rfl ?_
        rotate_left
        · go_simp
          with_reducible rfl
        simp only [Act.put, List.setIfInBounds_toArray, List.set_cons_zero, List.set_cons_succ]
        -- 13: slot 90
        refine wpG_take preGr (i := 13) (v := ?_) (by kernel_rfl) (some 90) (by kernel_rfl) rfl (by kernel_rfl) (by kernel_rfl) (by kernel_rfl) (fun _ _ _ h => h) (by rfl) (fun w' hw' => ?_) rfl ?_
        rotate_left
        · go_simp
          with_reducible rfl
        simp only [Act.put, List.setIfInBounds_toArray, List.set_cons_zero, List.set_cons_succ]
        -- 14: slot 91
        refine wpG_take preGr (i := 14) (v := ?_) (by kernel_rfl) (some 91) (by kernel_rfl) rfl (by kernel_rfl) (by kernel_rfl) (by kernel_rfl) (fun _ _ _ h => h) (by rfl) (fun w' hw' => ?_) rfl ?_
        rotate_left
        · go_simp
          with_reducible rfl
        simp only [Act.put, List.setIfInBounds_toArray, List.set_cons_zero, List.set_cons_succ]
        -- 15: slot 92
        refine wpG_take preGr (i := 15) (v := ?_) (by kernel_rfl) (some 92) (by kernel_rfl) rfl (by kernel_rfl) (by kernel_rfl) (by kernel_rfl) (fun _ _ _ h => h) (by rfl) (fun w' hw' => ?_) rfl ?_
        rotate_left
        · go_simp
          with_reducible rfl
        simp only [Act.put, List.setIfInBounds_toArray, List.set_cons_zero, List.set_cons_succ]
        -- 16: slot 93
        refine wpG_take preGr (i := 16) (v := ?_) (by kernel_rfl) (some 93) (by kernel_rfl) rfl (by kernel_rfl) (by kernel_rfl) (by kernel_rfl) (fun _ _ _ h => h) (by rfl) (fun w' hw' => ?_) rfl ?_
        rotate_left
        · go_simp
          with_reducible rfl
        simp only [Act.put, List.setIfInBounds_toArray, List.set_cons_zero, List.set_cons_succ]
        -- 17: slot 94
        refine wpG_take preGr (i := 17) (v := ?_) (by kernel_rfl) (some 94) (by kernel_rfl) rfl (by kernel_rfl) (by kernel_rfl) (by kernel_rfl) (fun _ _ _ h => h) (by rfl) (fun w' hw' => ?_) rfl ?_
        rotate_left
        · go_simp
          with_reducible rfl
        simp only [Act.put, List.setIfInBounds_toArray, List.set_cons_zero, List.set_cons_succ]
        -- 18: slot 95
        refine wpG_take preGr (i := 18) (v := ?_) (by kernel_rfl) (some 95) (by kernel_rfl) rfl (by kernel_rfl) (by kernel_rfl) (by kernel_rfl) (fun _ _ _ h => h) (by rfl) (fun w' hw' => ?_) rfl ?_
        rotate_left
        · go_simp
          with_reducible rfl
        simp only [Act.put, List.setIfInBounds_toArray, List.set_cons_zero, List.set_cons_succ]
        refine wpG_one (i := 5) rfl (by kernel_rfl) (by rfl) ?_
        go_simp
        refine (turned_any _ 7 (by omega) (by omega) _).mono ?_
        rintro e w' ⟨rfl, rfl⟩
        refine ⟨Gr.refl _, ?_⟩
        try simp only [Act.put, List.setIfInBounds_toArray, List.set_cons_zero, List.set_cons_succ]
        refine wpG_one (i := 11) rfl (by kernel_rfl) (by rfl) ?_
        go_simp
        refine (turned_any _ 18 (by omega) (by omega) _).mono ?_
        rintro e w' ⟨rfl, rfl⟩
        refine ⟨Gr.refl _, ?_⟩
        try simp only [Act.put, List.setIfInBounds_toArray, List.set_cons_zero, List.set_cons_succ]
        -- 12: slot 89
        refine wpG_take preGr (i := 12) (v := ?_) (by kernel_rfl) (some 89) (by kernel_rfl) rfl (by kernel_rfl) (by kernel_rfl) (by kernel_rfl) (fun _ _ _ h => h) (by rfl) (fun w' hw' => ?_) rfl ?_
        rotate_left
        · go_simp
          with_reducible rfl
        simp only [Act.put, List.setIfInBounds_toArray, List.set_cons_zero, List.set_cons_succ]
        -- 19: slot 96
        refine wpG_take preGr (i := 19) (v := ?_) (by kernel_rfl) (some 96) (by kernel_rfl) rfl (by kernel_rfl) (by kernel_rfl) (by kernel_rfl) (fun _ _ _ h => h) (by rfl) (fun w' hw' => ?_) rfl ?_
        rotate_left
        · go_simp
          with_reducible rfl
        simp only [Act.put, List.setIfInBounds_toArray, List.set_cons_zero, List.set_cons_succ]
        -- 20: slot 9
        refine wpG_take preGr (i := 20) (v := ?_) (by kernel_rfl) (some 9) (by kernel_rfl) rfl (by kernel_rfl) (by kernel_rfl) (by kernel_rfl) (fun _ _ _ h => h) (by rfl) (fun w' hw' => ?_) rfl ?_
        rotate_left
        · go_simp
          with_reducible rfl
        simp only [Act.put, List.setIfInBounds_toArray, List.set_cons_zero, List.set_cons_succ]
        refine wpG_done (by kernel_rfl) ?_ _
        clear c15
        have HR3 := Lib.hid (HR2.out.below (Gr.drew wr2))
        generalize wr2.drew = wr3 at HR3 ⊢
        have c7 : ∀ w', Gr wr3.drew w' → w'.cell? ⟨w.heap.size + 1 + 1 + 1 + 1, k - 7, none⟩ = some (u32v ((wL l k).getD (k - 7) 0)) := fun w' hg => (HR3.out.below ((Gr.drew _).trans hg)).get (k - 7) (by omega)
        have c16 : ∀ w', Gr wr3.drew w' → w'.cell? ⟨w.heap.size + 1 + 1 + 1 + 1, k - 16, none⟩ = some (u32v ((wL l k).getD (k - 16) 0)) := fun w' hg => (HR3.out.below ((Gr.drew _).trans hg)).get (k - 16) (by omega)
        obtain ⟨u, hu⟩ := HR3.out.at (by omega) k (by omega)
        have hf := HR3.out.free k
        go_wp2
        refine wp_region_G 18 Gr (by kernel_rfl) ?_
        -- 0: slot 97
        refine wpG_take preGr (i := 0) (v := ?_) (by kernel_rfl) (some 97) (by kernel_rfl) rfl (by kernel_rfl) (by kernel_rfl) (by kernel_rfl) (fun _ _ _ h => h) (by rfl) (fun w' hw' => ?_) rfl ?_
        rotate_left
        · go_simp
          with_reducible rfl
        simp only [Act.put, List.setIfInBounds_toArray, List.set_cons_zero, List.set_cons_succ]
        -- 1: slot 98
        refine wpG_take preGr (i := 1) (v := ?_) (by kernel_rfl) (some 98) (by kernel_rfl) rfl (by kernel_rfl) (by kernel_rfl) (by kernel_rfl) (fun _ _ _ h => h) (by rfl) (fun w' hw' => ?_) rfl ?_
        rotate_left
        · go_simp
          with_reducible rfl
        simp only [Act.put, List.setIfInBounds_toArray, List.set_cons_zero, List.set_cons_succ]
        -- 2: slot 99
        refine wpG_take preGr (i := 2) (v := ?_) (by kernel_rfl) (some 99) (by kernel_rfl) rfl (by kernel_rfl) (by kernel_rfl) (by kernel_rfl) (fun _ _ _ h => h) (by rfl) (fun w' hw' => ?_) rfl ?_
        rotate_left
        · go_simp
          with_reducible rfl
        simp only [Act.put, List.setIfInBounds_toArray, List.set_cons_zero, List.set_cons_succ]
        -- 3: slot 100
        refine wpG_take preGr (i := 3) (v := ?_) (by kernel_rfl) (some 100) (by kernel_rfl) rfl (by kernel_rfl) (by kernel_rfl) (by kernel_rfl) (fun _ _ _ h => h) (by rfl) (fun w' hw' => ?_) rfl ?_
        rotate_left
        · go_simp
          with_reducible rfl
        simp only [Act.put, List.setIfInBounds_toArray, List.set_cons_zero, List.set_cons_succ]
        -- 4: slot 101
        refine wpG_take preGr (i := 4) (v := ?_) (by kernel_rfl) (some 101) (by kernel_rfl) rfl (by kernel_rfl) (by kernel_rfl) (by kernel_rfl) (fun _ _ _ h => h) (by rfl) (fun w' hw' => ?_) rfl ?_
        rotate_left
        · go_simp
          with_reducible rfl
        simp only [Act.put, List.setIfInBounds_toArray, List.set_cons_zero, List.set_cons_succ]
        -- 5: slot 102
        refine wpG_take preGr (i := 5) (v := ?_) (by kernel_rfl) (some 102) (by kernel_rfl) rfl (by kernel_rfl) (by kernel_rfl) (by kernel_rfl) (fun _ _ _ h => h) (by rfl) (fun w' hw' => ?_) rfl ?_
        rotate_left
        · go_simp
          with_reducible rfl
        simp only [Act.put, List.setIfInBounds_toArray, List.set_cons_zero, List.set_cons_succ]
        -- 6: slot 103
        refine wpG_take preGr (i := 6) (v := ?_) (by kernel_rfl) (some 103) (by kernel_rfl) rfl (by kernel_rfl) (by kernel_rfl) (by kernel_rfl) (fun _ _ _ h => h) (by rfl) (fun w' hw' => ?_) rfl ?_
        rotate_left
        · go_simp
          with_reducible rfl
        simp only [Act.put, List.setIfInBounds_toArray, List.set_cons_zero, List.set_cons_succ]
        -- 7: slot 104
        refine wpG_take preGr (i := 7) (v := ?_) (by kernel_rfl) (some 104) (by kernel_rfl) rfl (by kernel_rfl) (by kernel_rfl) (by kernel_rfl) (fun _ _ _ h => h) (by rfl) (fun w' hw' => ?_) rfl ?_
        rotate_left
        · go_simp
          with_reducible rfl
        simp only [Act.put, List.setIfInBounds_toArray, List.set_cons_zero, List.set_cons_succ]
        -- 8: slot 105
        refine wpG_take preGr (i := 8) (v := ?_) (by kernel_rfl) (some 105) (by kernel_rfl) rfl (by kernel_rfl) (by kernel_rfl) (by kernel_rfl) (fun _ _ _ h => h) (by rfl) (fun w' hw' => ?_) rfl ?_
        rotate_left
        · go_simp
          with_reducible rfl
        simp only [Act.put, List.setIfInBounds_toArray, List.set_cons_zero, List.set_cons_succ]
        -- 9: slot 106
        refine wpG_take preGr (i := 9) (v := ?_) (by kernel_rfl) (some 106) (by kernel_rfl) rfl (by kernel_rfl) (by kernel_rfl) (by kernel_rfl) (fun _ _ _ h => h) (by rfl) (fun w' hw' => ?_) rfl ?_
        rotate_left
        · go_simp
          with_reducible rfl
        simp only [Act.put, List.setIfInBounds_toArray, List.set_cons_zero, List.set_cons_succ]
        -- 10: slot 107
        refine wpG_take preGr (i := 10) (v := ?_) (by kernel_rfl) (some 107) (by kernel_rfl) rfl (by kernel_rfl) (by kernel_rfl) (by kernel_rfl) (fun _ _ _ h => h) (by rfl) (fun w' hw' => ?_) rfl ?_
        rotate_left
        · go_simp
          with_reducible rfl
        simp only [Act.put, List.setIfInBounds_toArray, List.set_cons_zero, List.set_cons_succ]
        -- 11: slot 108
        refine wpG_take preGr (i := 11) (v := ?_) (by kernel_rfl) (some 108) (by kernel_rfl) rfl (by kernel_rfl) (by kernel_rfl) (by kernel_rfl) (fun _ _ _ h => h) (by rfl) (fun w' hw' => ?_) rfl ?_
        rotate_left
        · go_simp
          with_reducible rfl
        simp only [Act.put, List.setIfInBounds_toArray, List.set_cons_zero, List.set_cons_succ]
        -- 12: slot 109
        refine wpG_take preGr (i := 12) (v := ?_) (by kernel_rfl) (some 109) (by kernel_rfl) rfl (by kernel_rfl) (by kernel_rfl) (by kernel_rfl) (fun _ _ _ h => h) (by rfl) (fun w' hw' => ?_) rfl ?_
        rotate_left
        · go_simp
          with_reducible rfl
        simp only [Act.put, List.setIfInBounds_toArray, List.set_cons_zero, List.set_cons_succ]
        -- 13: slot 110
        refine wpG_take preGr (i := 13) (v := ?_) (by kernel_rfl) (some 110) (by kernel_rfl) rfl (by kernel_rfl) (by kernel_rfl) (by kernel_rfl) (fun _ _ _ h => h) (by rfl) (fun w' hw' => ?_) rfl ?_
        rotate_left
        · go_simp
          with_reducible rfl
        simp only [Act.put, List.setIfInBounds_toArray, List.set_cons_zero, List.set_cons_succ]
        -- 14: slot 111
        refine wpG_take preGr (i := 14) (v := ?_) (by kernel_rfl) (some 111) (by kernel_rfl) rfl (by kernel_rfl) (by kernel_rfl) (by kernel_rfl) (fun _ _ _ h => h) (by rfl) (fun w' hw' => ?_) rfl ?_
        rotate_left
        · go_simp
          with_reducible rfl
        simp only [Act.put, List.setIfInBounds_toArray, List.set_cons_zero, List.set_cons_succ]
        -- 15: slot 112
        refine wpG_take preGr (i := 15) (v := ?_) (by kernel_rfl) (some 112) (by kernel_rfl) rfl (by kernel_rfl) (by kernel_rfl) (by kernel_rfl) (fun _ _ _ h => h) (by rfl) (fun w' hw' => ?_) rfl ?_
        rotate_left
        · go_simp
          with_reducible rfl
        simp only [Act.put, List.setIfInBounds_toArray, List.set_cons_zero, List.set_cons_succ]
        -- 16: slot 113
        refine wpG_take preGr (i := 16) (v := ?_) (by kernel_rfl) (some 113) (by kernel_rfl) rfl (by kernel_rfl) (by kernel_rfl) (by kernel_rfl) (fun _ _ _ h => h) (by rfl) (fun w' hw' => ?_) rfl ?_
        rotate_left
        · go_simp
          with_reducible rfl
        simp only [Act.put, List.setIfInBounds_toArray, List.set_cons_zero, List.set_cons_succ]
        -- 17: slot 114
        refine wpG_take preGr (i := 17) (v := ?_) (by kernel_rfl) (some 114) (by kernel_rfl) rfl (by kernel_rfl) (by kernel_rfl) (by kernel_rfl) (fun _ _ _ h => h) (by rfl) (fun w' hw' => ?_) rfl ?_
        rotate_left
        · go_simp
          with_reducible rfl
        simp only [Act.put, List.setIfInBounds_toArray, List.set_cons_zero, List.set_cons_succ]
        refine wpG_tail (i := 18) (by decide) rfl (by kernel_rfl) (by rfl) ?_
        go_simp
        try simp only [Act.put, List.setIfInBounds_toArray, List.set_cons_zero, List.set_cons_succ]
        refine wpG_done (by kernel_rfl) ?_ _
        go_wp2
        go_roundw
        case rel =>
          first | exact ⟨k + 1, by omega, by go_num, HR3.out.next hlt (by omega)⟩ | ((repeat apply Exists.intro); exact ⟨⟨k + 1, by omega, by go_num, HR3.out.next hlt (by omega)⟩, rfl⟩)
        case measure => simp [intOf]; omega
    · obtain rfl : k = 64 := by omega
      have hrow : wr.rangeAt w.heap.size 0 s.cells := range_of_row HR.out.2.1
      have HROW := Lib.hid hrow
      clear hrow
      go_wp2_with (first | (with_reducible refine wpList_load_mid rfl 78 (.tmp 2) rfl w.heap.size 0 rfl s.cells _ HROW.out Tryd.underlying78 rfl (size8c s) ?_) | (with_reducible refine wpList_store_row rfl 78 (.tmp 10) (.tmp 115) rfl wr.heap.size s.cells.toArray rfl rfl 78 (List.replicate 8 (Value.int .u32 0)).toArray (heap_alloc_last _ _) ?a1 ?a2 ?a3 ?_))
      case a1 => exact size8
      case a2 => rfl
      case a3 => exact one_words s.list
      intro w2 h1 h2 h3
      have hv : VI w w2 s l wr.heap.size s.list := by
        have hg := (Array.getElem?_eq_some_iff.1 HR.out.2.2.2.2.2).1
        exact ⟨(HR.out.below ((Below.refl _ _).alloc (Nat.le_refl _) _)).keep (by omega) h2 h3, h1, by omega⟩
      obtain ⟨gv, hgv⟩ : ∃ gv, gv = wr.heap.size := ⟨_, rfl⟩
      rw [← hgv] at hv ⊢
      have HV := Lib.hid hv
      clear hv h1 h2 h3 HROW HR hgv
      go_wp2
      go_loopw [11] (fun i11 wr => ∃ (k : Nat) (t : St), k ≤ 64 ∧ i11 = .int .i64 k ∧ Hid (t = s.rounds l k ∧ VI w wr s l gv t.list)) (fun i11 _ => 64 - (intOf i11).toNat)
      case atStart => exact ⟨0, s, by omega, rfl, rfl, HV.out⟩
      case round =>
        clear HV hk hlt
        obtain ⟨k, t, hk, rfl, HV⟩ := hrel
        by_cases hlt : k < 64
        · have qk : (k : Int) < 64 := by omega
          have wAnd := w_and; have wOr := w_or; have wXor := w_xor; have wNot := w_not; have wAdd := w_add
          have v4 : ∀ w', Gr wr.drew w' → w'.cell? ⟨gv, 4, none⟩ = some (u32v t.e) := fun w' hg => (HV.out.2.below ((Gr.drew _).trans hg)).get 4 _ rfl
          go_wp2
          refine wp_region_G 12 Gr (by kernel_rfl) ?_
          -- 0: slot 120
          refine wpG_take preGr (i := 0) (v := ?_) (by kernel_rfl) (some 120) (by kernel_rfl) rfl (by kernel_rfl) (by kernel_rfl) (by kernel_rfl) (fun _ _ _ h => h) (by rfl) (fun w' hw' => ?_) rfl ?_
          rotate_left
          · go_simp
            with_reducible rfl
          simp only [Act.put, List.setIfInBounds_toArray, List.set_cons_zero, List.set_cons_succ]
          -- 1: slot 121
          refine wpG_take preGr (i := 1) (v := ?_) (by kernel_rfl) (some 121) (by kernel_rfl) rfl (by kernel_rfl) (by kernel_rfl) (by kernel_rfl) (fun _ _ _ h => h) (by rfl) (fun w' hw' => ?_) rfl ?_
          rotate_left
          · go_simp
            with_reducible rfl
          simp only [Act.put, List.setIfInBounds_toArray, List.set_cons_zero, List.set_cons_succ]
          -- 3: slot 123
          refine wpG_take preGr (i := 3) (v := ?_) (by kernel_rfl) (some 123) (by kernel_rfl) rfl (by kernel_rfl) (by kernel_rfl) (by kernel_rfl) (fun _ _ _ h => h) (by rfl) (fun w' hw' => ?_) rfl ?_
          rotate_left
          · go_simp
            with_reducible rfl
          simp only [Act.put, List.setIfInBounds_toArray, List.set_cons_zero, List.set_cons_succ]
          -- 4: slot 124
          refine wpG_take preGr (i := 4) (v := ?_) (by kernel_rfl) (some 124) (by kernel_rfl) rfl (by kernel_rfl) (by kernel_rfl) (by kernel_rfl) (fun _ _ _ h => h) (by rfl) (fun w' hw' => ?_) rfl ?_
          rotate_left
          · go_simp
            with_reducible rfl
          simp only [Act.put, List.setIfInBounds_toArray, List.set_cons_zero, List.set_cons_succ]
          -- 7: slot 127
          refine wpG_take preGr (i := 7) (v := ?_) (by kernel_rfl) (some 127) (by kernel_rfl) rfl (by kernel_rfl) (by kernel_rfl) (by kernel_rfl) (fun _ _ _ h => h) (by rfl) (fun w' hw' => ?_) rfl ?_
          rotate_left
          · go_simp
            with_reducible rfl
          simp only [Act.put, List.setIfInBounds_toArray, List.set_cons_zero, List.set_cons_succ]
          -- 8: slot 128
          refine wpG_take preGr (i := 8) (v := ?_) (by kernel_rfl) (some 128) (by kernel_rfl) rfl (by kernel_rfl) (by kernel_rfl) (by kernel_rfl) (fun _ _ _ h => h) (by rfl) (fun w' hw' => ?_) rfl ?_
          rotate_left
          · go_simp
            with_reducible rfl
          simp only [Act.put, List.setIfInBounds_toArray, List.set_cons_zero, List.set_cons_succ]
          refine wpG_one (i := 2) rfl (by kernel_rfl) (by rfl) ?_
          go_simp
          refine (turned_any _ 6 (by omega) (by omega) _).mono ?_
          rintro e w' ⟨rfl, rfl⟩
          refine ⟨Gr.refl _, ?_⟩
          try simp only [Act.put, List.setIfInBounds_toArray, List.set_cons_zero, List.set_cons_succ]
          refine wpG_one (i := 5) rfl (by kernel_rfl) (by rfl) ?_
          go_simp
          refine (turned_any _ 11 (by omega) (by omega) _).mono ?_
          rintro e w' ⟨rfl, rfl⟩
          refine ⟨Gr.refl _, ?_⟩
          try simp only [Act.put, List.setIfInBounds_toArray, List.set_cons_zero, List.set_cons_succ]
          -- 6: slot 126
          refine wpG_take preGr (i := 6) (v := ?_) (by kernel_rfl) (some 126) (by kernel_rfl) rfl (by kernel_rfl) (by kernel_rfl) (by kernel_rfl) (fun _ _ _ h => h) (by rfl) (fun w' hw' => ?_) rfl ?_
          rotate_left
          · go_simp
            with_reducible rfl
          simp only [Act.put, List.setIfInBounds_toArray, List.set_cons_zero, List.set_cons_succ]
          refine wpG_one (i := 9) rfl (by kernel_rfl) (by rfl) ?_
          go_simp
          refine (turned_any _ 25 (by omega) (by omega) _).mono ?_
          rintro e w' ⟨rfl, rfl⟩
          refine ⟨Gr.refl _, ?_⟩
          try simp only [Act.put, List.setIfInBounds_toArray, List.set_cons_zero, List.set_cons_succ]
          -- 10: slot 130
          refine wpG_take preGr (i := 10) (v := ?_) (by kernel_rfl) (some 130) (by kernel_rfl) rfl (by kernel_rfl) (by kernel_rfl) (by kernel_rfl) (fun _ _ _ h => h) (by rfl) (fun w' hw' => ?_) rfl ?_
          rotate_left
          · go_simp
            with_reducible rfl
          simp only [Act.put, List.setIfInBounds_toArray, List.set_cons_zero, List.set_cons_succ]
          -- 11: slot 12
          refine wpG_take preGr (i := 11) (v := ?_) (by kernel_rfl) (some 12) (by kernel_rfl) rfl (by kernel_rfl) (by kernel_rfl) (by kernel_rfl) (fun _ _ _ h => h) (by rfl) (fun w' hw' => ?_) rfl ?_
          rotate_left
          · go_simp
            with_reducible rfl
          simp only [Act.put, List.setIfInBounds_toArray, List.set_cons_zero, List.set_cons_succ]
          refine wpG_done (by kernel_rfl) ?_ _
          clear v4
          have HV2 := Lib.hid (show t = s.rounds l k ∧ VI w wr.drew s l gv t.list from ⟨HV.out.1, HV.out.2.below (Gr.drew wr)⟩)
          generalize wr.drew = wr2 at HV2 ⊢
          have v7 : ∀ w', Gr wr2.drew w' → w'.cell? ⟨gv, 7, none⟩ = some (u32v t.h) := fun w' hg => (HV2.out.2.below ((Gr.drew _).trans hg)).get 7 _ rfl
          have v4 : ∀ w', Gr wr2.drew w' → w'.cell? ⟨gv, 4, none⟩ = some (u32v t.e) := fun w' hg => (HV2.out.2.below ((Gr.drew _).trans hg)).get 4 _ rfl
          have v5 : ∀ w', Gr wr2.drew w' → w'.cell? ⟨gv, 5, none⟩ = some (u32v t.f) := fun w' hg => (HV2.out.2.below ((Gr.drew _).trans hg)).get 5 _ rfl
          have v6 : ∀ w', Gr wr2.drew w' → w'.cell? ⟨gv, 6, none⟩ = some (u32v t.g) := fun w' hg => (HV2.out.2.below ((Gr.drew _).trans hg)).get 6 _ rfl
          obtain ⟨kk, hkk⟩ : ∃ x, x = kL.getD k 0 := ⟨_, rfl⟩
          obtain ⟨wk, hwk⟩ : ∃ x, x = (wL l 64).getD k 0 := ⟨_, rfl⟩
          have cK : ∀ w', Gr wr2.drew w' → w'.cell? ⟨w.heap.size + 1 + 1 + 1, k, none⟩ = some (u32v kk) := fun w' hg => by rw [hkk]; exact (HV2.out.2.below ((Gr.drew _).trans hg)).1.con k hlt
          have cW : ∀ w', Gr wr2.drew w' → w'.cell? ⟨w.heap.size + 1 + 1 + 1 + 1, k, none⟩ = some (u32v wk) := fun w' hg => by rw [hwk]; exact (HV2.out.2.below ((Gr.drew _).trans hg)).1.get k hlt
          have HK := Lib.hid hkk
          have HW := Lib.hid hwk
          clear hkk hwk
          go_wp2
          refine wp_region_G 28 Gr (by kernel_rfl) ?_
          -- 0: slot 131
          refine wpG_take preGr (i := 0) (v := ?_) (by kernel_rfl) (some 131) (by kernel_rfl) rfl (by kernel_rfl) (by kernel_rfl) (by kernel_rfl) (fun _ _ _ h => h) (by rfl) (fun w' hw' => ?_) rfl ?_
          rotate_left
          · go_simp
            with_reducible rfl
          simp only [Act.put, List.setIfInBounds_toArray, List.set_cons_zero, List.set_cons_succ]
          -- 1: slot 132
          refine wpG_take preGr (i := 1) (v := ?_) (by kernel_rfl) (some 132) (by kernel_rfl) rfl (by kernel_rfl) (by kernel_rfl) (by kernel_rfl) (fun _ _ _ h => h) (by rfl) (fun w' hw' => ?_) rfl ?_
          rotate_left
          · go_simp
            with_reducible rfl
          simp only [Act.put, List.setIfInBounds_toArray, List.set_cons_zero, List.set_cons_succ]
          -- 2: slot 133
          refine wpG_take preGr (i := 2) (v := ?_) (by kernel_rfl) (some 133) (by kernel_rfl) rfl (by kernel_rfl) (by kernel_rfl) (by kernel_rfl) (fun _ _ _ h => h) (by rfl) (fun w' hw' => ?_) rfl ?_
          rotate_left
          · go_simp
            with_reducible rfl
          simp only [Act.put, List.setIfInBounds_toArray, List.set_cons_zero, List.set_cons_succ]
          -- 3: slot 134
          refine wpG_take preGr (i := 3) (v := ?_) (by kernel_rfl) (some 134) (by kernel_rfl) rfl (by kernel_rfl) (by kernel_rfl) (by kernel_rfl) (fun _ _ _ h => h) (by rfl) (fun w' hw' => ?_) rfl ?_
          rotate_left
          · go_simp
            with_reducible rfl
          simp only [Act.put, List.setIfInBounds_toArray, List.set_cons_zero, List.set_cons_succ]
          -- 4: slot 135
          refine wpG_take preGr (i := 4) (v := ?_) (by kernel_rfl) (some 135) (by kernel_rfl) rfl (by kernel_rfl) (by kernel_rfl) (by kernel_rfl) (fun _ _ _ h => h) (by rfl) (fun w' hw' => ?_) rfl ?_
          rotate_left
          · go_simp
            with_reducible rfl
          simp only [Act.put, List.setIfInBounds_toArray, List.set_cons_zero, List.set_cons_succ]
          -- 5: slot 136
          refine wpG_take preGr (i := 5) (v := ?_) (by kernel_rfl) (some 136) (by kernel_rfl) rfl (by kernel_rfl) (by kernel_rfl) (by kernel_rfl) (fun _ _ _ h => h) (by rfl) (fun w' hw' => ?_) rfl ?_
          rotate_left
          · go_simp
            with_reducible rfl
          simp only [Act.put, List.setIfInBounds_toArray, List.set_cons_zero, List.set_cons_succ]
          -- 6: slot 137
          refine wpG_take preGr (i := 6) (v := ?_) (by kernel_rfl) (some 137) (by kernel_rfl) rfl (by kernel_rfl) (by kernel_rfl) (by kernel_rfl) (fun _ _ _ h => h) (by rfl) (fun w' hw' => ?_) rfl ?_
          rotate_left
          · go_simp
            with_reducible rfl
          simp only [Act.put, List.setIfInBounds_toArray, List.set_cons_zero, List.set_cons_succ]
          -- 7: slot 138
          refine wpG_take preGr (i := 7) (v := ?_) (by kernel_rfl) (some 138) (by kernel_rfl) rfl (by kernel_rfl) (by kernel_rfl) (by kernel_rfl) (fun _ _ _ h => h) (by rfl) (fun w' hw' => ?_) rfl ?_
          rotate_left
          · go_simp
            with_reducible rfl
          simp only [Act.put, List.setIfInBounds_toArray, List.set_cons_zero, List.set_cons_succ]
          -- 8: slot 139
          refine wpG_take preGr (i := 8) (v := ?_) (by kernel_rfl) (some 139) (by kernel_rfl) rfl (by kernel_rfl) (by kernel_rfl) (by kernel_rfl) (fun _ _ _ h => h) (by rfl) (fun w' hw' => ?_) rfl ?_
          rotate_left
          · go_simp
            with_reducible rfl
          simp only [Act.put, List.setIfInBounds_toArray, List.set_cons_zero, List.set_cons_succ]
          -- 9: slot 140
          refine wpG_take preGr (i := 9) (v := ?_) (by kernel_rfl) (some 140) (by kernel_rfl) rfl (by kernel_rfl) (by kernel_rfl) (by kernel_rfl) (fun _ _ _ h => h) (by rfl) (fun w' hw' => ?_) rfl ?_
          rotate_left
          · go_simp
            with_reducible rfl
          simp only [Act.put, List.setIfInBounds_toArray, List.set_cons_zero, List.set_cons_succ]
          -- 10: slot 141
          refine wpG_take preGr (i := 10) (v := ?_) (by kernel_rfl) (some 141) (by kernel_rfl) rfl (by kernel_rfl) (by kernel_rfl) (by kernel_rfl) (fun _ _ _ h => h) (by rfl) (fun w' hw' => ?_) rfl ?_
          rotate_left
          · go_simp
            with_reducible rfl
          simp only [Act.put, List.setIfInBounds_toArray, List.set_cons_zero, List.set_cons_succ]
          -- 11: slot 142
          refine wpG_take preGr (i := 11) (v := ?_) (by kernel_rfl) (some 142) (by kernel_rfl) rfl (by kernel_rfl) (by kernel_rfl) (by kernel_rfl) (fun _ _ _ h => h) (by rfl) (fun w' hw' => ?_) rfl ?_
          rotate_left
          · go_simp
            with_reducible rfl
          simp only [Act.put, List.setIfInBounds_toArray, List.set_cons_zero, List.set_cons_succ]
          -- 12: slot 143
          refine wpG_take preGr (i := 12) (v := ?_) (by kernel_rfl) (some 143) (by kernel_rfl) rfl (by kernel_rfl) (by kernel_rfl) (by kernel_rfl) (fun _ _ _ h => h) (by rfl) (fun w' hw' => ?_) rfl ?_
          rotate_left
          · go_simp
            with_reducible rfl
          simp only [Act.put, List.setIfInBounds_toArray, List.set_cons_zero, List.set_cons_succ]
          -- 13: slot 144
          refine wpG_take preGr (i := 13) (v := ?_) (by kernel_rfl) (some 144) (by kernel_rfl) rfl (by kernel_rfl) (by kernel_rfl) (by kernel_rfl) (fun _ _ _ h => h) (by rfl) (fun w' hw' => ?_) rfl ?_
          rotate_left
          · go_simp
            with_reducible rfl
          simp only [Act.put, List.setIfInBounds_toArray, List.set_cons_zero, List.set_cons_succ]
          -- 14: slot 145
          refine wpG_take preGr (i := 14) (v := ?_) (by kernel_rfl) (some 145) (by kernel_rfl) rfl (by kernel_rfl) (by kernel_rfl) (by kernel_rfl) (fun _ _ _ h => h) (by rfl) (fun w' hw' => ?_) rfl ?_
          rotate_left
          · go_simp
            with_reducible rfl
          simp only [Act.put, List.setIfInBounds_toArray, List.set_cons_zero, List.set_cons_succ]
          -- 15: slot 146
          refine wpG_take preGr (i := 15) (v := ?_) (by kernel_rfl) (some 146) (by kernel_rfl) rfl (by kernel_rfl) (by kernel_rfl) (by kernel_rfl) (fun _ _ _ h => h) (by rfl) (fun w' hw' => ?_) rfl ?_
          rotate_left
          · go_simp
            with_reducible rfl
          simp only [Act.put, List.setIfInBounds_toArray, List.set_cons_zero, List.set_cons_succ]
          -- 16: slot 147
          refine wpG_take preGr (i := 16) (v := ?_) (by kernel_rfl) (some 147) (by kernel_rfl) rfl (by kernel_rfl) (by kernel_rfl) (by kernel_rfl) (fun _ _ _ h => h) (by rfl) (fun w' hw' => ?_) rfl ?_
          rotate_left
          · go_simp
            with_reducible rfl
          simp only [Act.put, List.setIfInBounds_toArray, List.set_cons_zero, List.set_cons_succ]
          -- 17: slot 148
          refine wpG_take preGr (i := 17) (v := ?_) (by kernel_rfl) (some 148) (by kernel_rfl) rfl (by kernel_rfl) (by kernel_rfl) (by kernel_rfl) (fun _ _ _ h => h) (by rfl) (fun w' hw' => ?_) rfl ?_
          rotate_left
          · go_simp
            with_reducible rfl
          simp only [Act.put, List.setIfInBounds_toArray, List.set_cons_zero, List.set_cons_succ]
          -- 18: slot 149
          refine wpG_take preGr (i := 18) (v := ?_) (by kernel_rfl) (some 149) (by kernel_rfl) rfl (by kernel_rfl) (by kernel_rfl) (by kernel_rfl) (fun _ _ _ h => h) (by rfl) (fun w' hw' => ?_) rfl ?_
          rotate_left
          · go_simp
            with_reducible rfl
          simp only [Act.put, List.setIfInBounds_toArray, List.set_cons_zero, List.set_cons_succ]
          -- 19: slot 150
          refine wpG_take preGr (i := 19) (v := ?_) (by kernel_rfl) (some 150) (by kernel_rfl) rfl (by kernel_rfl) (by kernel_rfl) (by kernel_rfl) (fun _ _ _ h => h) (by rfl) (fun w' hw' => ?_) rfl ?_
          rotate_left
          · go_simp
            with_reducible rfl
          simp only [Act.put, List.setIfInBounds_toArray, List.set_cons_zero, List.set_cons_succ]
          -- 20: slot 151
          refine wpG_take preGr (i := 20) (v := ?_) (by kernel_rfl) (some 151) (by kernel_rfl) rfl (by kernel_rfl) (by kernel_rfl) (by kernel_rfl) (fun _ _ _ h => h) (by rfl) (fun w' hw' => ?_) rfl ?_
          rotate_left
          · go_simp
            with_reducible rfl
          simp only [Act.put, List.setIfInBounds_toArray, List.set_cons_zero, List.set_cons_succ]
          -- 21: slot 152
          refine wpG_take preGr (i := 21) (v := ?_) (by kernel_rfl) (some 152) (by kernel_rfl) rfl (by kernel_rfl) (by kernel_rfl) (by kernel_rfl) (fun _ _ _ h => h) (by rfl) (fun w' hw' => ?_) rfl ?_
          rotate_left
          · go_simp
            with_reducible rfl
          simp only [Act.put, List.setIfInBounds_toArray, List.set_cons_zero, List.set_cons_succ]
          -- 22: slot 153
          refine wpG_take preGr (i := 22) (v := ?_) (by kernel_rfl) (some 153) (by kernel_rfl) rfl (by kernel_rfl) (by kernel_rfl) (by kernel_rfl) (fun _ _ _ h => h) (by rfl) (fun w' hw' => ?_) rfl ?_
          rotate_left
          · go_simp
            with_reducible rfl
          simp only [Act.put, List.setIfInBounds_toArray, List.set_cons_zero, List.set_cons_succ]
          -- 23: slot 154
          refine wpG_take preGr (i := 23) (v := ?_) (by kernel_rfl) (some 154) (by kernel_rfl) rfl (by kernel_rfl) (by kernel_rfl) (by kernel_rfl) (fun _ _ _ h => h) (by rfl) (fun w' hw' => ?_) rfl ?_
          rotate_left
          · go_simp
            with_reducible rfl
          simp only [Act.put, List.setIfInBounds_toArray, List.set_cons_zero, List.set_cons_succ]
          -- 24: slot 155
          refine wpG_take preGr (i := 24) (v := ?_) (by kernel_rfl) (some 155) (by kernel_rfl) rfl (by kernel_rfl) (by kernel_rfl) (by kernel_rfl) (fun _ _ _ h => h) (by rfl) (fun w' hw' => ?_) rfl ?_
          rotate_left
          · go_simp
            with_reducible rfl
          simp only [Act.put, List.setIfInBounds_toArray, List.set_cons_zero, List.set_cons_succ]
          -- 25: slot 156
          refine wpG_take preGr (i := 25) (v := ?_) (by kernel_rfl) (some 156) (by kernel_rfl) rfl (by kernel_rfl) (by kernel_rfl) (by kernel_rfl) (fun _ _ _ h => h) (by rfl) (fun w' hw' => ?_) rfl ?_
          rotate_left
          · go_simp
            with_reducible rfl
          simp only [Act.put, List.setIfInBounds_toArray, List.set_cons_zero, List.set_cons_succ]
          -- 26: slot 157
          refine wpG_take preGr (i := 26) (v := ?_) (by kernel_rfl) (some 157) (by kernel_rfl) rfl (by kernel_rfl) (by kernel_rfl) (by kernel_rfl) (fun _ _ _ h => h) (by rfl) (fun w' hw' => ?_) rfl ?_
          rotate_left
          · go_simp
            with_reducible rfl
          simp only [Act.put, List.setIfInBounds_toArray, List.set_cons_zero, List.set_cons_succ]
          -- 27: slot 13
          refine wpG_take preGr (i := 27) (v := ?_) (by kernel_rfl) (some 13) (by kernel_rfl) rfl (by kernel_rfl) (by kernel_rfl) (by kernel_rfl) (fun _ _ _ h => h) (by rfl) (fun w' hw' => ?_) rfl ?_
          rotate_left
          · go_simp
            with_reducible rfl
          simp only [Act.put, List.setIfInBounds_toArray, List.set_cons_zero, List.set_cons_succ]
          refine wpG_done (by kernel_rfl) ?_ _
          clear cK cW v7 v4 v5 v6
          have HV3 := Lib.hid (show t = s.rounds l k ∧ VI w wr2.drew s l gv t.list from ⟨HV2.out.1, HV2.out.2.below (Gr.drew wr2)⟩)
          generalize wr2.drew = wr3 at HV3 ⊢
          have v0 : ∀ w', Gr wr3.drew w' → w'.cell? ⟨gv, 0, none⟩ = some (u32v t.a) := fun w' hg => (HV3.out.2.below ((Gr.drew _).trans hg)).get 0 _ rfl
          go_wp2
          refine wp_region_G 12 Gr (by kernel_rfl) ?_
          -- 0: slot 158
          refine wpG_take preGr (i := 0) (v := ?_) (by kernel_rfl) (some 158) (by kernel_rfl) rfl (by kernel_rfl) (by kernel_rfl) (by kernel_rfl) (fun _ _ _ h => h) (by rfl) (fun w' hw' => ?_) rfl ?_
          rotate_left
          · go_simp
            with_reducible rfl
          simp only [Act.put, List.setIfInBounds_toArray, List.set_cons_zero, List.set_cons_succ]
          -- 1: slot 159
          refine wpG_take preGr (i := 1) (v := ?_) (by kernel_rfl) (some 159) (by kernel_rfl) rfl (by kernel_rfl) (by kernel_rfl) (by kernel_rfl) (fun _ _ _ h => h) (by rfl) (fun w' hw' => ?_) rfl ?_
          rotate_left
          · go_simp
            with_reducible rfl
          simp only [Act.put, List.setIfInBounds_toArray, List.set_cons_zero, List.set_cons_succ]
          -- 3: slot 161
          refine wpG_take preGr (i := 3) (v := ?_) (by kernel_rfl) (some 161) (by kernel_rfl) rfl (by kernel_rfl) (by kernel_rfl) (by kernel_rfl) (fun _ _ _ h => h) (by rfl) (fun w' hw' => ?_) rfl ?_
          rotate_left
          · go_simp
            with_reducible rfl
          simp only [Act.put, List.setIfInBounds_toArray, List.set_cons_zero, List.set_cons_succ]
          -- 4: slot 162
          refine wpG_take preGr (i := 4) (v := ?_) (by kernel_rfl) (some 162) (by kernel_rfl) rfl (by kernel_rfl) (by kernel_rfl) (by kernel_rfl) (fun _ _ _ h => h) (by rfl) (fun w' hw' => ?_) rfl ?_
          rotate_left
          · go_simp
            with_reducible rfl
          simp only [Act.put, List.setIfInBounds_toArray, List.set_cons_zero, List.set_cons_succ]
          -- 7: slot 165
          refine wpG_take preGr (i := 7) (v := ?_) (by kernel_rfl) (some 165) (by kernel_rfl) rfl (by kernel_rfl) (by kernel_rfl) (by kernel_rfl) (fun _ _ _ h => h) (by rfl) (fun w' hw' => ?_) rfl ?_
          rotate_left
          · go_simp
            with_reducible rfl
          simp only [Act.put, List.setIfInBounds_toArray, List.set_cons_zero, List.set_cons_succ]
          -- 8: slot 166
          refine wpG_take preGr (i := 8) (v := ?_) (by kernel_rfl) (some 166) (by kernel_rfl) rfl (by kernel_rfl) (by kernel_rfl) (by kernel_rfl) (fun _ _ _ h => h) (by rfl) (fun w' hw' => ?_) rfl ?_
          rotate_left
          · go_simp
            with_reducible rfl
          simp only [Act.put, List.setIfInBounds_toArray, List.set_cons_zero, List.set_cons_succ]
          refine wpG_one (i := 2) rfl (by kernel_rfl) (by rfl) ?_
          go_simp
          refine (turned_any _ 2 (by omega) (by omega) _).mono ?_
          rintro e w' ⟨rfl, rfl⟩
          refine ⟨Gr.refl _, ?_⟩
          try simp only [Act.put, List.setIfInBounds_toArray, List.set_cons_zero, List.set_cons_succ]
          refine wpG_one (i := 5) rfl (by kernel_rfl) (by rfl) ?_
          go_simp
          refine (turned_any _ 13 (by omega) (by omega) _).mono ?_
          rintro e w' ⟨rfl, rfl⟩
          refine ⟨Gr.refl _, ?_⟩
          try simp only [Act.put, List.setIfInBounds_toArray, List.set_cons_zero, List.set_cons_succ]
          -- 6: slot 164
          refine wpG_take preGr (i := 6) (v := ?_) (by kernel_rfl) (some 164) (by kernel_rfl) rfl (by kernel_rfl) (by kernel_rfl) (by kernel_rfl) (fun _ _ _ h => h) (by rfl) (fun w' hw' => ?_) rfl ?_
          rotate_left
          · go_simp
            with_reducible rfl
          simp only [Act.put, List.setIfInBounds_toArray, List.set_cons_zero, List.set_cons_succ]
          refine wpG_one (i := 9) rfl (by kernel_rfl) (by rfl) ?_
          go_simp
          refine (turned_any _ 22 (by omega) (by omega) _).mono ?_
          rintro e w' ⟨rfl, rfl⟩
          refine ⟨Gr.refl _, ?_⟩
          try simp only [Act.put, List.setIfInBounds_toArray, List.set_cons_zero, List.set_cons_succ]
          -- 10: slot 168
          refine wpG_take preGr (i := 10) (v := ?_) (by kernel_rfl) (some 168) (by kernel_rfl) rfl (by kernel_rfl) (by kernel_rfl) (by kernel_rfl) (fun _ _ _ h => h) (by rfl) (fun w' hw' => ?_) rfl ?_
          rotate_left
          · go_simp
            with_reducible rfl
          simp only [Act.put, List.setIfInBounds_toArray, List.set_cons_zero, List.set_cons_succ]
          -- 11: slot 14
          refine wpG_take preGr (i := 11) (v := ?_) (by kernel_rfl) (some 14) (by kernel_rfl) rfl (by kernel_rfl) (by kernel_rfl) (by kernel_rfl) (fun _ _ _ h => h) (by rfl) (fun w' hw' => ?_) rfl ?_
          rotate_left
          · go_simp
            with_reducible rfl
          simp only [Act.put, List.setIfInBounds_toArray, List.set_cons_zero, List.set_cons_succ]
          refine wpG_done (by kernel_rfl) ?_ _
          clear v0
          have HV4 := Lib.hid (show t = s.rounds l k ∧ VI w wr3.drew s l gv t.list from ⟨HV3.out.1, HV3.out.2.below (Gr.drew wr3)⟩)
          generalize wr3.drew = wr4 at HV4 ⊢
          have g3 := HV4.out.2.2.1
          have G3 := Lib.hid g3
          clear g3
          have v0 := HV4.out.2.get 0 _ rfl
          have v1 := HV4.out.2.get 1 _ rfl
          have v2 := HV4.out.2.get 2 _ rfl
          have v3 := HV4.out.2.get 3 _ rfl
          have v4 := HV4.out.2.get 4 _ rfl
          have v5 := HV4.out.2.get 5 _ rfl
          have v6 := HV4.out.2.get 6 _ rfl
          go_wp2_with (first | (with_reducible refine wpList_store_row rfl 78 (.tmp 10) (.tmp 207) rfl gv _ rfl rfl 78 _ G3.out ?b1 ?b2 ?b3 ?_) | fail)
          case b1 => exact size8
          case b2 => rfl
          case b3 => exact one_words (t.next kk wk).list
          intro w5 h1 h2 h3
          have hv : t.next kk wk = s.rounds l (k + 1) ∧ VI w w5 s l gv (t.next kk wk).list := ⟨by rw [HV4.out.1, HK.out, HW.out]; rfl, HV4.out.2.1.keep HV4.out.2.2.2 h2 h3, h1, HV4.out.2.2.2⟩
          have HV5 := Lib.hid hv
          clear hv h1 h2 h3 v0 v1 v2 v3 v4 v5 v6
          go_wp2
          go_roundw
          case rel =>
            first | exact ⟨k + 1, t.next kk wk, by omega, by go_num, HV5⟩ | ((repeat apply Exists.intro); exact ⟨⟨k + 1, t.next kk wk, by omega, by go_num, HV5⟩, rfl⟩)
          case measure => simp [intOf]; omega
        · obtain rfl : k = 64 := by omega
          have HV2 := Lib.hid (show VI w wr s l gv (mixL s t 0) by rw [mixL_zero]; exact HV.out.2)
          have HT := Lib.hid HV.out.1
          clear HV
          go_wp2
          go_loopw [16] (fun i16 wr => ∃ k : Nat, k ≤ 8 ∧ i16 = .int .i64 k ∧ Hid (VI w wr s l gv (mixL s t k))) (fun i16 _ => 8 - (intOf i16).toNat)
          case atStart => exact ⟨0, by omega, rfl, HV2⟩
          case round =>
            clear HV2
            obtain ⟨k, hk8, rfl, HV⟩ := hrel
            by_cases hlt8 : k < 8
            · have qk : (k : Int) < 8 := by omega
              have wAnd := w_and; have wOr := w_or; have wXor := w_xor; have wNot := w_not; have wAdd := w_add
              have v0 : ∀ w', Gr wr.drew w' → w'.cell? ⟨gv, k, none⟩ = some (u32v (t.list.getD k 0)) := fun w' hg => (HV.out.below ((Gr.drew _).trans hg)).get k _ (mixL_get s t k hlt8)
              have v1 : ∀ w', Gr wr.drew w' → w'.cell? ⟨w.heap.size, k, none⟩ = some (u32v (s.list.getD k 0)) := fun w' hg => by
                rw [cell_of_row _ _ _ _ _ _ (HV.out.below ((Gr.drew _).trans hg)).1.2.1]
                have : k < s.list.length := hlt8
                simp [St.cells, this]
              have hu := HV.out.get k _ (mixL_get s t k hlt8)
              have hf := HV.out.free k
              have HM := Lib.hid (mixL_set s t k hlt8)
              obtain ⟨x, hx⟩ : ∃ x, x = t.list.getD k 0 := ⟨_, rfl⟩
              obtain ⟨y, hy⟩ : ∃ y, y = s.list.getD k 0 := ⟨_, rfl⟩
              rw [← hx] at v0 hu HM
              rw [← hy] at v1 HM
              clear hx hy
              go_wp2
              refine wp_region_G 9 Gr (by kernel_rfl) ?_
              -- 0: slot 212
              refine wpG_take preGr (i := 0) (v := ?_) (by kernel_rfl) (some 212) (by kernel_rfl) rfl (by kernel_rfl) (by kernel_rfl) (by kernel_rfl) (fun _ _ _ h => h) (by rfl) (fun w' hw' => ?_) rfl ?_
              rotate_left
              · go_simp
                with_reducible rfl
              simp only [Act.put, List.setIfInBounds_toArray, List.set_cons_zero, List.set_cons_succ]
              -- 1: slot 213
              refine wpG_take preGr (i := 1) (v := ?_) (by kernel_rfl) (some 213) (by kernel_rfl) rfl (by kernel_rfl) (by kernel_rfl) (by kernel_rfl) (fun _ _ _ h => h) (by rfl) (fun w' hw' => ?_) rfl ?_
              rotate_left
              · go_simp
                with_reducible rfl
              simp only [Act.put, List.setIfInBounds_toArray, List.set_cons_zero, List.set_cons_succ]
              -- 2: slot 214
              refine wpG_take preGr (i := 2) (v := ?_) (by kernel_rfl) (some 214) (by kernel_rfl) rfl (by kernel_rfl) (by kernel_rfl) (by kernel_rfl) (fun _ _ _ h => h) (by rfl) (fun w' hw' => ?_) rfl ?_
              rotate_left
              · go_simp
                with_reducible rfl
              simp only [Act.put, List.setIfInBounds_toArray, List.set_cons_zero, List.set_cons_succ]
              -- 3: slot 215
              refine wpG_take preGr (i := 3) (v := ?_) (by kernel_rfl) (some 215) (by kernel_rfl) rfl (by kernel_rfl) (by kernel_rfl) (by kernel_rfl) (fun _ _ _ h => h) (by rfl) (fun w' hw' => ?_) rfl ?_
              rotate_left
              · go_simp
                with_reducible rfl
              simp only [Act.put, List.setIfInBounds_toArray, List.set_cons_zero, List.set_cons_succ]
              -- 4: slot 216
              refine wpG_take preGr (i := 4) (v := ?_) (by kernel_rfl) (some 216) (by kernel_rfl) rfl (by kernel_rfl) (by kernel_rfl) (by kernel_rfl) (fun _ _ _ h => h) (by rfl) (fun w' hw' => ?_) rfl ?_
              rotate_left
              · go_simp
                with_reducible rfl
              simp only [Act.put, List.setIfInBounds_toArray, List.set_cons_zero, List.set_cons_succ]
              -- 5: slot 217
              refine wpG_take preGr (i := 5) (v := ?_) (by kernel_rfl) (some 217) (by kernel_rfl) rfl (by kernel_rfl) (by kernel_rfl) (by kernel_rfl) (fun _ _ _ h => h) (by rfl) (fun w' hw' => ?_) rfl ?_
              rotate_left
              · go_simp
                with_reducible rfl
              simp only [Act.put, List.setIfInBounds_toArray, List.set_cons_zero, List.set_cons_succ]
              -- 6: slot 218
              refine wpG_take preGr (i := 6) (v := ?_) (by kernel_rfl) (some 218) (by kernel_rfl) rfl (by kernel_rfl) (by kernel_rfl) (by kernel_rfl) (fun _ _ _ h => h) (by rfl) (fun w' hw' => ?_) rfl ?_
              rotate_left
              · go_simp
                with_reducible rfl
              simp only [Act.put, List.setIfInBounds_toArray, List.set_cons_zero, List.set_cons_succ]
              -- 7: slot 219
              refine wpG_take preGr (i := 7) (v := ?_) (by kernel_rfl) (some 219) (by kernel_rfl) rfl (by kernel_rfl) (by kernel_rfl) (by kernel_rfl) (fun _ _ _ h => h) (by rfl) (fun w' hw' => ?_) rfl ?_
              rotate_left
              · go_simp
                with_reducible rfl
              simp only [Act.put, List.setIfInBounds_toArray, List.set_cons_zero, List.set_cons_succ]
              -- 8: slot 220
              refine wpG_take preGr (i := 8) (v := ?_) (by kernel_rfl) (some 220) (by kernel_rfl) rfl (by kernel_rfl) (by kernel_rfl) (by kernel_rfl) (fun _ _ _ h => h) (by rfl) (fun w' hw' => ?_) rfl ?_
              rotate_left
              · go_simp
                with_reducible rfl
              simp only [Act.put, List.setIfInBounds_toArray, List.set_cons_zero, List.set_cons_succ]
              refine wpG_tail (i := 9) (by decide) rfl (by kernel_rfl) (by rfl) ?_
              go_simp
              try simp only [Act.put, List.setIfInBounds_toArray, List.set_cons_zero, List.set_cons_succ]
              refine wpG_done (by kernel_rfl) ?_ _
              clear v0 v1
              have HV2 := Lib.hid (show VI w (wr.setCell ⟨gv, k, none⟩ (u32v (x + y))).drew s l gv (mixL s t (k + 1)) by rw [← HM.out]; exact (HV.out.set k (x + y)).below (Gr.drew _))
              go_wp2
              go_roundw
              case rel =>
                first | exact ⟨k + 1, by omega, by go_num, HV2⟩ | ((repeat apply Exists.intro); exact ⟨⟨k + 1, by omega, by go_num, HV2⟩, rfl⟩)
              case measure => simp [intOf]; omega
            · obtain rfl : k = 8 := by omega
              have hv := HV.out
              rw [mixL_full] at hv
              have hrow : wr.rangeAt gv 0 (s.add t).cells := range_of_row hv.2.1
              have HROW := Lib.hid hrow
              have HR := Lib.hid hv.1
              have g3 := HR.out.2.2.2.1
              have G3 := Lib.hid g3
              clear hrow HV hv g3
              go_wp2_with (first | (with_reducible refine wpList_load_mid rfl 78 (.tmp 10) rfl gv 0 rfl (s.add t).cells _ HROW.out Tryd.underlying78 rfl (size8c _) ?_) | (with_reducible refine wpList_store_row rfl 78 (.tmp 4) (.tmp 221) rfl (w.heap.size + 1 + 1) (s.add t).cells.toArray rfl rfl 78 _ G3.out ?a1 ?a2 ?a3 ?_))
              case a1 => exact size8
              case a2 => rfl
              case a3 => exact one_words (s.add t).list
              intro w3 h1 h2 _
              have H1 := Lib.hid h1
              have H2 := Lib.hid (h2 _ _ (by omega) HR.out.1)
              clear h1 h2
              go_wp2
              refine bodyPost_ret (v := .agg (s.step l).cells.toArray) (results_cell_row Tryd.results47 _ _ (w.heap.size + 1 + 1) 78 _ (0, 0) _ rfl (by rw [H1.out, St.step, ← HT.out]) Tryd.underlying78 rfl size8) rfl ?_
              exact ⟨rfl, H2.out⟩
end Go.Proofs.YtjlacialbfhjcaaDoor
