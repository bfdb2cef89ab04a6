/-
  A limiter in memory: isMade, Len, Tick, fresh.
-/
import Derived.Test.YtblnglkjpnpmbaaBkN
import Derived.Test.YtblnglkjpnpmbaaBkD
import Derived.Deep.DeepCutAuto
namespace Go.Proofs.Ytblnglkjpnpmbaa.Bk
open Go.RowKit
set_option linter.unusedVariables false
set_option linter.unusedSimpArgs false

/-- Nothing that was there has turned but blocks g and b. -/
structure Tu (g b : Nat) (w w' : World) : Prop where
  os : w'.os = w.os
  tape : w'.tape = w.tape
  output : w'.output = w.output
  size : w.heap.size ≤ w'.heap.size
  block : ∀ k, k < w.heap.size → k ≠ g → k ≠ b → w'.heap[k]? = w.heap[k]?
theorem Tu.refl (g b : Nat) (w : World) : Tu g b w w := ⟨rfl, rfl, rfl, Nat.le_refl _, fun _ _ _ _ => rfl⟩
theorem Tu.trans {g b : Nat} {u v w : World} (h : Tu g b u v) (k : Tu g b v w) : Tu g b u w :=
  ⟨k.os.trans h.os, k.tape.trans h.tape, k.output.trans h.output, Nat.le_trans h.size k.size, fun i hi h1 h2 => (k.block i (Nat.lt_of_lt_of_le hi h.size) h1 h2).trans (h.block i hi h1 h2)⟩
theorem Tu.gr {g b : Nat} {w w' : World} (h : Below w.heap.size w w') : Tu g b w w' := ⟨h.os, h.tape, h.output, h.size, fun k hk _ _ => h.block k hk⟩
theorem Tu.grown {g b : Nat} {w w' : World} {row : Option Nat} (h : w.grownBy w' row) (hr : ∀ k, row = some k → w.heap.size ≤ k ∨ k = g ∨ k = b) : Tu g b w w' :=
  ⟨h.os, h.tape, h.output, h.size, fun i hi h1 h2 => h.block i hi fun e => by rcases hr i e.symm with h3 | h3 | h3 <;> omega⟩
theorem Tu.step {g b : Nat} {u w w' : World} {row : Option Nat} (h : Tu g b u w) (hg : w.grownBy w' row) (hr : ∀ k, row = some k → u.heap.size ≤ k ∨ k = g ∨ k = b) : Tu g b u w' :=
  ⟨hg.os.trans h.os, hg.tape.trans h.tape, hg.output.trans h.output, Nat.le_trans h.size hg.size, fun i hi h1 h2 => (hg.block i (Nat.lt_of_lt_of_le hi h.size) fun e => by rcases hr i e.symm with h3 | h3 | h3 <;> omega).trans (h.block i hi h1 h2)⟩
theorem Tu.stepB {g b B : Nat} {u w w' : World} (h : Tu g b u w) (hg : Below B w w') (hB : u.heap.size ≤ B) : Tu g b u w' :=
  ⟨hg.os.trans h.os, hg.tape.trans h.tape, hg.output.trans h.output, Nat.le_trans h.size hg.size, fun i hi h1 h2 => (hg.block i (Nat.lt_of_lt_of_le hi hB)).trans (h.block i hi h1 h2)⟩
theorem Tu.below {g b B : Nat} {u w w' : World} (hu : Below B u w) (hB : B ≤ w.heap.size) (h : Tu g b w w') (hg : B ≤ g) (hb : B ≤ b) : Below B u w' :=
  hu.trans ⟨h.os, h.tape, h.output, h.size, fun k hk => h.block k (by omega) (by omega) (by omega)⟩
theorem Tu.heap {g b k : Nat} {w w' : World} {o : Obj} (h : Tu g b w w') (hk : w.heap[k]? = some o) (h1 : k ≠ g) (h2 : k ≠ b) : w'.heap[k]? = some o :=
  (h.block k (Array.getElem?_eq_some_iff.1 hk).1 h1 h2).trans hk
/-- Pointer block g is a limiter with the map in block bm. -/
structure LimAt (w : World) (g bm : Nat) (S : Li) : Prop where
  row : w.heap[g]? = some (.cells #[.int .i64 S.all.e, .int .i64 S.all.m, .int .i64 S.own.e, .int .i64 S.own.m, .int .i64 S.b.k, .int .i64 S.b.t, .map (some bm), .int .i64 S.t] 63 (0, 0))
  map : MapAt w bm S.es
  ok : OkL S
  lean : ∀ p ∈ S.es, tok S.own p.2 S.t < S.own.m
  few : S.es.length ≤ 256
theorem LimAt.ne {w : World} {g bm : Nat} {S : Li} (h : LimAt w g bm S) : g ≠ bm := by
  rintro rfl
  obtain ⟨E, ⟨a, c, h1, _⟩, _⟩ := h.map.own
  rw [h.row] at h1
  cases h1
theorem LimAt.keep {w w' : World} {g bm : Nat} {S : Li} (h : LimAt w g bm S) (hg : w'.heap[g]? = w.heap[g]?) (hb : w'.heap[bm]? = w.heap[bm]?) : LimAt w' g bm S := ⟨hg.trans h.row, h.map.keep hb, h.ok, h.lean, h.few⟩
theorem LimAt.lt {w : World} {g bm : Nat} {S : Li} (h : LimAt w g bm S) : g < w.heap.size ∧ bm < w.heap.size := ⟨(Array.getElem?_eq_some_iff.1 h.row).1, h.map.lt⟩
theorem LimAt.gr {w w' : World} {g bm : Nat} {S : Li} (h : LimAt w g bm S) (hb : Below w.heap.size w w') : LimAt w' g bm S := h.keep (hb.block _ h.lt.1) (hb.block _ h.lt.2)

theorem run_neq_map_nil (w : World) (p : Option Nat) : (binOp .neq 61 (.map p) (.map none)).run Try.prog w = .ok (.bool p.isSome) w := by
  have h : ∀ d, (Op.equalIn (d + 1) 61 (.map p) (.map none)).run Try.prog w = .ok p.isNone w := fun d => by
    cases p <;> simp [Op.equalIn, run_underlying Try.underlying61]
  simp only [binOp]
  simp [show Op.equal 61 (.map p) (.map none) = Op.equalIn (9999 + 1) 61 (.map p) (.map none) from rfl, h 9999]
theorem isMade_yes {S : Li} (g bm : Nat) (w : World) (h : w.heap[g]? = some (.cells #[.int .i64 S.all.e, .int .i64 S.all.m, .int .i64 S.own.e, .int .i64 S.own.m, .int .i64 S.b.k, .int .i64 S.b.t, .map (some bm), .int .i64 S.t] 63 (0, 0))) :
    Calls Try.prog 31 #[.pointer (some ⟨g, 0, none⟩)] w fun e w' => e = .returned (.bool true) ∧ w = w' := by
  obtain ⟨k0, k1, k2, k3, k4, k5, k6, k7⟩ := cells8 h
  have hq := fun w => run_neq_map_nil w (some bm)
  clear h
  go_enter Try.func31, Try.ntmps31
  go_wp2
  go_ret
  exact ⟨rfl, rfl⟩
theorem isMade_nil (w : World) :
    Calls Try.prog 31 #[.pointer none] w fun e w' => e = .returned (.bool false) ∧ w = w' := by
  go_enter Try.func31, Try.ntmps31
  go_wp2
  go_ret
  exact ⟨rfl, rfl⟩
theorem isMade_no (g : Nat) (w : World) (h : w.heap[g]? = some (.cells #[.int .i64 0, .int .i64 0, .int .i64 0, .int .i64 0, .int .i64 0, .int .i64 0, .map none, .int .i64 0] 63 (0, 0))) :
    Calls Try.prog 31 #[.pointer (some ⟨g, 0, none⟩)] w fun e w' => e = .returned (.bool false) ∧ w = w' := by
  obtain ⟨k0, k1, k2, k3, k4, k5, k6, k7⟩ := cells8 h
  have hq := fun w => run_neq_map_nil w none
  clear h
  go_enter Try.func31, Try.ntmps31
  go_wp2
  go_ret
  exact ⟨rfl, rfl⟩
theorem len_any {S : Li} (g bm : Nat) (w : World) (h : LimAt w g bm S) :
    Calls Try.prog 25 #[.pointer (some ⟨g, 0, none⟩)] w fun e w' => e = .returned (.int .i64 S.es.length) ∧ w = w' := by
  obtain ⟨k0, k1, k2, k3, k4, k5, k6, k7⟩ := cells8 h.row
  have hl := fun ty => h.map.len ty
  have HM := Lib.hid (isMade_yes g bm w h.row)
  clear h
  go_enter Try.func25, Try.ntmps25
  go_wp2_with fail
  refine HM.out.mono ?_
  rintro e w' ⟨rfl, rfl⟩
  go_wp2
  go_ret
  exact ⟨rfl, rfl⟩
theorem tick_any {S : Li} (g bm : Nat) (w : World) (h : LimAt w g bm S) :
    Calls Try.prog 26 #[.pointer (some ⟨g, 0, none⟩)] w fun e w' => e = .returned (.int .i64 S.t) ∧ w = w' := by
  obtain ⟨k0, k1, k2, k3, k4, k5, k6, k7⟩ := cells8 h.row
  have HM := Lib.hid (isMade_yes g bm w h.row)
  clear h
  go_enter Try.func26, Try.ntmps26
  go_wp2_with fail
  refine HM.out.mono ?_
  rintro e w' ⟨rfl, rfl⟩
  go_wp2
  go_ret
  exact ⟨rfl, rfl⟩
theorem fresh_any {S : Li} (g bm : Nat) (w : World) (h : w.heap[g]? = some (.cells #[.int .i64 S.all.e, .int .i64 S.all.m, .int .i64 S.own.e, .int .i64 S.own.m, .int .i64 S.b.k, .int .i64 S.b.t, .map (some bm), .int .i64 S.t] 63 (0, 0))) :
    Calls Try.prog 33 #[.pointer (some ⟨g, 0, none⟩)] w fun e w' => e = .returned (.agg #[.int .i64 S.own.m, .int .i64 S.t]) ∧ Below w.heap.size w w' := by
  have HB : Hid (Below w.heap.size w (w.alloc (.cells #[.int .i64 0, .int .i64 0] 25))) := (Below.refl _ _).alloc (Nat.le_refl _) _
  have HG : Hid ((w.alloc (.cells #[.int .i64 0, .int .i64 0] 25)).heap[w.heap.size]? = some (.cells #[.int .i64 0, .int .i64 0] 25 (0, 0))) := heap_alloc_last _ _
  have HR : Hid ((w.alloc (.cells #[.int .i64 0, .int .i64 0] 25)).heap[g]? = some (.cells #[.int .i64 S.all.e, .int .i64 S.all.m, .int .i64 S.own.e, .int .i64 S.own.m, .int .i64 S.b.k, .int .i64 S.b.t, .map (some bm), .int .i64 S.t] 63 (0, 0))) := heap_below h ((Below.refl _ _).alloc (Nat.le_refl _) _)
  have HW := Lib.hid (show w.heap.size < (w.alloc (.cells #[.int .i64 0, .int .i64 0] 25)).heap.size by simp)
  clear h
  go_enter Try.func33, Try.ntmps33
  go_upto_region 1 with fail
  generalize w.alloc (.cells #[.int .i64 0, .int .i64 0] 25) = w1 at HB HG HR HW ⊢
  have HC : Hid (Gr w1 w1.drew) := Gr.drew w1
  refine wp_region_G 10 Gr (by kernel_rfl) ?_
  generalize w1.drew = wc at HC ⊢
  -- 0: slot 3
  refine wpG_take preGr (i := 0) (v := ?_) (by kernel_rfl) (some 3) (by kernel_rfl) rfl (by kernel_rfl) (by kernel_rfl) (by kernel_rfl) (fun _ _ _ h => h) (by rfl) (fun w' hw' => ?_) rfl ?_
  rotate_left
  · try obtain ⟨k0, k1, k2, k3, k4, k5, k6, k7⟩ := cells8 (heap_below HR.out (Gr.trans HC.out hw'))
    go_simp
    with_reducible rfl
  simp only [Act.put, List.setIfInBounds_toArray, List.set_cons_zero, List.set_cons_succ]
  -- 1: slot 4
  refine wpG_take preGr (i := 1) (v := ?_) (by kernel_rfl) (some 4) (by kernel_rfl) rfl (by kernel_rfl) (by kernel_rfl) (by kernel_rfl) (fun _ _ _ h => h) (by rfl) (fun w' hw' => ?_) rfl ?_
  rotate_left
  · try obtain ⟨k0, k1, k2, k3, k4, k5, k6, k7⟩ := cells8 (heap_below HR.out (Gr.trans HC.out hw'))
    go_simp
    with_reducible rfl
  simp only [Act.put, List.setIfInBounds_toArray, List.set_cons_zero, List.set_cons_succ]
  -- 2: slot 5
  refine wpG_take preGr (i := 2) (v := ?_) (by kernel_rfl) (some 5) (by kernel_rfl) rfl (by kernel_rfl) (by kernel_rfl) (by kernel_rfl) (fun _ _ _ h => h) (by rfl) (fun w' hw' => ?_) rfl ?_
  rotate_left
  · try obtain ⟨k0, k1, k2, k3, k4, k5, k6, k7⟩ := cells8 (heap_below HR.out (Gr.trans HC.out hw'))
    go_simp
    with_reducible rfl
  simp only [Act.put, List.setIfInBounds_toArray, List.set_cons_zero, List.set_cons_succ]
  -- 3: slot 6
  refine wpG_take preGr (i := 3) (v := ?_) (by kernel_rfl) (some 6) (by kernel_rfl) rfl (by kernel_rfl) (by kernel_rfl) (by kernel_rfl) (fun _ _ _ h => h) (by rfl) (fun w' hw' => ?_) rfl ?_
  rotate_left
  · try obtain ⟨k0, k1, k2, k3, k4, k5, k6, k7⟩ := cells8 (heap_below HR.out (Gr.trans HC.out hw'))
    go_simp
    with_reducible rfl
  simp only [Act.put, List.setIfInBounds_toArray, List.set_cons_zero, List.set_cons_succ]
  -- 4: slot 7
  refine wpG_take preGr (i := 4) (v := ?_) (by kernel_rfl) (some 7) (by kernel_rfl) rfl (by kernel_rfl) (by kernel_rfl) (by kernel_rfl) (fun _ _ _ h => h) (by rfl) (fun w' hw' => ?_) rfl ?_
  rotate_left
  · try obtain ⟨k0, k1, k2, k3, k4, k5, k6, k7⟩ := cells8 (heap_below HR.out (Gr.trans HC.out hw'))
    go_simp
    with_reducible rfl
  simp only [Act.put, List.setIfInBounds_toArray, List.set_cons_zero, List.set_cons_succ]
  -- 5: slot 8
  refine wpG_take preGr (i := 5) (v := ?_) (by kernel_rfl) (some 8) (by kernel_rfl) rfl (by kernel_rfl) (by kernel_rfl) (by kernel_rfl) (fun _ _ _ h => h) (by rfl) (fun w' hw' => ?_) rfl ?_
  rotate_left
  · try obtain ⟨k0, k1, k2, k3, k4, k5, k6, k7⟩ := cells8 (heap_below HR.out (Gr.trans HC.out hw'))
    go_simp
    with_reducible rfl
  simp only [Act.put, List.setIfInBounds_toArray, List.set_cons_zero, List.set_cons_succ]
  -- 6: slot 9
  refine wpG_take preGr (i := 6) (v := ?_) (by kernel_rfl) (some 9) (by kernel_rfl) rfl (by kernel_rfl) (by kernel_rfl) (by kernel_rfl) (fun _ _ _ h => h) (by rfl) (fun w' hw' => ?_) rfl ?_
  rotate_left
  · try obtain ⟨k0, k1, k2, k3, k4, k5, k6, k7⟩ := cells8 (heap_below HR.out (Gr.trans HC.out hw'))
    go_simp
    with_reducible rfl
  simp only [Act.put, List.setIfInBounds_toArray, List.set_cons_zero, List.set_cons_succ]
  -- 7: slot 10
  refine wpG_take preGr (i := 7) (v := ?_) (by kernel_rfl) (some 10) (by kernel_rfl) rfl (by kernel_rfl) (by kernel_rfl) (by kernel_rfl) (fun _ _ _ h => h) (by rfl) (fun w' hw' => ?_) rfl ?_
  rotate_left
  · try obtain ⟨k0, k1, k2, k3, k4, k5, k6, k7⟩ := cells8 (heap_below HR.out (Gr.trans HC.out hw'))
    go_simp
    with_reducible rfl
  simp only [Act.put, List.setIfInBounds_toArray, List.set_cons_zero, List.set_cons_succ]
  -- 8: slot 11
  refine wpG_take preGr (i := 8) (v := ?_) (by kernel_rfl) (some 11) (by kernel_rfl) rfl (by kernel_rfl) (by kernel_rfl) (by kernel_rfl) (fun _ _ _ h => h) (by rfl) (fun w' hw' => ?_) rfl ?_
  rotate_left
  · try obtain ⟨k0, k1, k2, k3, k4, k5, k6, k7⟩ := cells8 (heap_below HR.out (Gr.trans HC.out hw'))
    go_simp
    with_reducible rfl
  simp only [Act.put, List.setIfInBounds_toArray, List.set_cons_zero, List.set_cons_succ]
  -- 9: slot 12
  refine wpG_take preGr (i := 9) (v := ?_) (by kernel_rfl) (some 12) (by kernel_rfl) rfl (by kernel_rfl) (by kernel_rfl) (by kernel_rfl) (fun _ _ _ h => h) (by rfl) (fun w' hw' => ?_) rfl ?_
  rotate_left
  · try obtain ⟨k0, k1, k2, k3, k4, k5, k6, k7⟩ := cells8 (heap_below HR.out (Gr.trans HC.out hw'))
    go_simp
    with_reducible rfl
  simp only [Act.put, List.setIfInBounds_toArray, List.set_cons_zero, List.set_cons_succ]
  refine wpG_tail (i := 10) (by decide) rfl (by kernel_rfl) (by rfl) ?_
  refine wp_store_whole (none) 25 (.tmp 2) (.tmp 12) rfl w.heap.size [.int .i64 S.own.m, .int .i64 S.t] rfl rfl 25 [.int .i64 0, .int .i64 0] (heap_gr HC.out HG.out) (by kernel_rfl) rfl ?o1 rfl ?_
  case o1 => intro u hu; simp only [List.mem_cons, List.not_mem_nil, or_false] at hu; rcases hu with rfl | rfl <;> rfl
  intro wn h5 ho
  have HF5 : Hid (wn.heap[w.heap.size]? = some (.cells #[.int .i64 S.own.m, .int .i64 S.t] 25 (0, 0))) := h5
  have HF6 : Hid (Below w.heap.size w wn) := ho.below _ _ (Nat.le_refl _) (HB.out.trans (Below.mono HC.out HB.out.size))
  clear h5 ho
  try simp only [Act.put, List.setIfInBounds_toArray, List.set_cons_zero, List.set_cons_succ]
  refine wpG_done (by kernel_rfl) ?_ _
  go_wp2
  refine bodyPost_ret (v := .agg #[.int .i64 S.own.m, .int .i64 S.t]) (results_cell_row (P := Try.prog) (fn := Try.f33) rfl _ _ w.heap.size 25 _ (0, 0) _ rfl HF5.out Try.underlying25 rfl (by kernel_rfl)) rfl ?_
  exact ⟨rfl, HF6.out⟩
end Go.Proofs.Ytblnglkjpnpmbaa.Bk
