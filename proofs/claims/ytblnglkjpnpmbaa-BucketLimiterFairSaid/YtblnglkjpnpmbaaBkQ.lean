/-
  Allow: who is answered.
-/
import Derived.Test.YtblnglkjpnpmbaaBkO
namespace Go.Proofs.Ytblnglkjpnpmbaa.Bk
open Go.RowKit
set_option linter.unusedVariables false
set_option linter.unusedSimpArgs false

theorem goOn_any {S : Li} (g bm : Nat) (s : Int) (w : World) (h : LimAt w g bm S) :
    Calls Try.prog 32 #[.pointer (some ⟨g, 0, none⟩), .int .i64 s] w fun e w' => e = .returned (.tuple #[]) ∧ LimAt w' g bm (going S s) ∧ Tu g bm w w' := by
  by_cases hs : S.t + 1 ≤ s ∧ s ≤ 1099511627776
  · refine (goOn_more g bm s w h hs).mono ?_
    rintro e w' ⟨rfl, ⟨h1, h2⟩, h3⟩
    have ht : tickOf S s = s := tick_is hs
    refine ⟨rfl, ⟨?_, ?_, going_ok h.ok s, going_lean s, Nat.le_trans (kept_sub S _).length_le h.few⟩, h3⟩
    · have : (going S s).t = s := ht
      rw [this]
      exact h1
    · have : (going S s).es = kept S s := by unfold going; rw [ht]
      rw [this]
      exact h2
  · refine (goOn_same g bm s w h hs).mono ?_
    rintro e w' ⟨rfl, rfl⟩
    rw [going_same h.lean hs h.ok.t1]
    exact ⟨rfl, h, Tu.refl _ _ _⟩
theorem allow_lean {S : Li} (hS : OkL S) (m : List UInt8) (s : Int) : ∀ p ∈ (allow S m s).1.es, tok (allow S m s).1.own p.2 (allow S m s).1.t < (allow S m s).1.own.m := by
  obtain ⟨ht, ht1⟩ := tickOf_ge S s hS.t1
  unfold allow
  split
  · intro p hp
    show tok S.own p.2 (tickOf S s) < S.own.m
    rcases List.mem_append.1 hp with hp | hp
    · exact of_decide_eq_true (List.mem_filter.1 ((rest_sub _ _).subset hp)).2
    · obtain rfl := List.mem_singleton.1 hp
      have hm := mine_ok hS ht ht1 m
      have hr := tok_range hS.own hm.1 hm.2
      show tok S.own ⟨tok S.own (mine S m (tickOf S s)) (tickOf S s) - 1, tickOf S s⟩ (tickOf S s) < S.own.m
      rw [tok_now (by omega)]
      omega
  · exact going_lean s
/-- What Allow leaves, by what it takes. -/
theorem allow_out {S : Li} (hS : OkL S) (m : List UInt8) (s : Int) {A O : Bu × Bool} (hA : A = takB S.all S.b (tickOf S s)) (hO : O = takB S.own (mine S m (tickOf S s)) (tickOf S s)) :
    allow S m s = if room S m (tickOf S s) && (A.2 && O.2) then (⟨S.all, S.own, A.1, rest (going S s).es m ++ [(m, O.1)], tickOf S s⟩, true) else (going S s, false) := by
  obtain ⟨ht, ht1⟩ := tickOf_ge S s hS.t1
  have hm := mine_ok hS ht ht1 m
  have a1 := takB_yes (r := S.all) (b := S.b) (s := tickOf S s) ⟨hS.all, hS.b, Int.le_trans hS.bt ht, ht1⟩
  have o1 := takB_yes (r := S.own) (b := mine S m (tickOf S s)) (s := tickOf S s) ⟨hS.own, hm.1, hm.2, ht1⟩
  rw [← hA] at a1
  rw [← hO] at o1
  have hy : yes S m (tickOf S s) = (room S m (tickOf S s) && (A.2 && O.2)) := by rw [a1.1, o1.1]; rfl
  unfold allow
  rw [hy]
  by_cases hc : (room S m (tickOf S s) && (A.2 && O.2)) = true
  · rw [if_pos hc, if_pos hc]
    simp only [Bool.and_eq_true] at hc
    have h1 : decide (tok S.all S.b (tickOf S s) ≠ 0) = true := by rw [← a1.1]; exact hc.2.1
    have h2 : decide (tok S.own (mine S m (tickOf S s)) (tickOf S s) ≠ 0) = true := by rw [← o1.1]; exact hc.2.2
    rw [a1.2, o1.2, h1, h2]
    rfl
  · rw [if_neg hc, if_neg hc]; rfl
theorem allow_few {S : Li} (h : S.es.length ≤ 256) (m : List UInt8) (s : Int) : (allow S m s).1.es.length ≤ 256 := by
  have hk : (kept S (tickOf S s)).length ≤ S.es.length := (kept_sub S _).length_le
  unfold allow
  split
  · rename_i hy
    unfold yes room at hy
    simp only [Bool.and_eq_true, Bool.or_eq_true, decide_eq_true_eq] at hy
    show (rest (kept S (tickOf S s)) m ++ [_]).length ≤ 256
    rw [List.length_append, List.length_singleton]
    have hr : (rest (kept S (tickOf S s)) m).length ≤ (kept S (tickOf S s)).length := (rest_sub _ _).length_le
    rcases hy.1 with h1 | h1
    · obtain ⟨x, hx⟩ := Option.isSome_iff_exists.1 h1
      have : (rest (kept S (tickOf S s)) m).length < (kept S (tickOf S s)).length := List.length_filter_lt_length_iff_exists.2 ⟨_, find_mem hx, by simp⟩
      omega
    · omega
  · exact Nat.le_trans hk h
theorem LimAt.allowed {S : Li} (hS : OkL S) (hf : S.es.length ≤ 256) {w : World} {g bm : Nat} {m : List UInt8} {s : Int} {T : Li} (e : (allow S m s).1 = T)
    (h : w.heap[g]? = some (.cells #[.int .i64 T.all.e, .int .i64 T.all.m, .int .i64 T.own.e, .int .i64 T.own.m, .int .i64 T.b.k, .int .i64 T.b.t, .map (some bm), .int .i64 T.t] 63 (0, 0))) (hm : MapAt w bm T.es) : LimAt w g bm (allow S m s).1 := by
  have h1 := (allow_ok hS m s).1
  have h2 := allow_lean hS m s
  have h3 := allow_few hf m s
  rw [e] at h1 h2 h3 ⊢
  exact ⟨h, hm, h1, h2, h3⟩
section
variable {P : Program} {o : Oper} {a : Act} {w : World} {K : Act → World → Prop} {Q : Exit → Act → World → Prop}
theorem wp_entry (d : Option Tmp) (t : TypeId) (m k : Operand) (hop : o.op = Op.mapEntry t m k) {v1 v2 u : Value} {w1 : World} (h1 : a.eval m = v1) (h2 : a.eval k = v2) (hrun : (Instr.mapEntry t v1 v2).run P w = .ok u w1) (hd : o.dst = d)
    (h : K (a.put d u) w1) : o.wp P a w K Q := by
  unfold Oper.wp
  simp [execOp, hop, h1, h2, hrun, Result.andThen]
  rw [Oper.upon_value, hd]
  exact h
theorem wp_entryStore (d : Option Tmp) (t : TypeId) (m k x : Operand) (hop : o.op = Op.entryStore t m k x) {v1 v2 v3 : Value} {w1 : World} (h1 : a.eval m = v1) (h2 : a.eval k = v2) (h3 : a.eval x = v3) (hrun : (Instr.entryStore t v1 v2 v3).run P w = .ok () w1) (hd : o.dst = d)
    (h : K (a.put d undef) w1) : o.wp P a w K Q := by
  unfold Oper.wp
  simp [execOp, hop, h1, h2, h3, hrun, Result.andThen]
  subst hd
  exact h
end
theorem none_of {α : Type} {o : Option α} (h : false = o.isSome) : o = none := by cases o <;> simp_all
theorem turned_size {w w' : World} {b : Nat} (h : w.mapTurned w' b) : w'.heap.size = w.heap.size := by
  obtain ⟨es, clock, es', clock', hb, rfl⟩ := h
  simp [ChangeMaps.setBlock]
/-- What stands behind the choice of an address's bucket. -/
structure QA (S : Li) (s : Int) (g bm bx g7 : Nat) (m : List UInt8) (v0 v1 v2 v3 v4 v5 : Value) (w wr : World) : Prop where
  lim : LimAt wr g bm (going S s)
  mine : wr.heap[g7]? = some (.cells #[.int .i64 (mine S m (tickOf S s)).k, .int .i64 (mine S m (tickOf S s)).t] 25 (0, 0))
  box : wr.heap[bx]? = some (.cells #[v0, v1, v2, v3, v4, v5] 49 (0, 0))
  room : room S m (tickOf S s) = true
  tu : Tu g bm w wr
theorem QA.gr {S : Li} {s : Int} {g bm bx g7 : Nat} {m : List UInt8} {v0 v1 v2 v3 v4 v5 : Value} {w wr wx : World} (h : QA S s g bm bx g7 m v0 v1 v2 v3 v4 v5 w wr) (hb : Below wr.heap.size wr wx) : QA S s g bm bx g7 m v0 v1 v2 v3 v4 v5 w wx :=
  ⟨h.lim.gr hb, heap_below h.mine hb, heap_below h.box hb, h.room, h.tu.stepB hb h.tu.size⟩
set_option maxRecDepth 20000 in
set_option maxHeartbeats 8000000 in
theorem lim_allow {S : Li} (g bm : Nat) (s : Int) (v0 v1 v2 v3 v4 v5 : Value) (m : List UInt8) (hm : m.map u8v = [v0, v1, v2, v3, v4, v5]) (w : World) (h : LimAt w g bm S) :
    Calls Try.prog 22 #[.pointer (some ⟨g, 0, none⟩), .agg #[v0, v1, v2, v3, v4, v5], .int .i64 s] w fun e w' => e = .returned (.bool (allow S m s).2) ∧ LimAt w' g bm (allow S m s).1 ∧ Tu g bm w w' := by
  have h6 : m.length = 6 := by have := congrArg List.length hm; simpa using this
  have hmv : macV m = .agg #[v0, v1, v2, v3, v4, v5] := by unfold macV; rw [hm]
  have HOK := Lib.hid h.ok
  have HL1 : Hid (LimAt (w.alloc (.cells #[v0, v1, v2, v3, v4, v5] 49)) g bm S) := h.gr ((Below.refl _ _).alloc (Nat.le_refl _) _)
  have HX1 : Hid ((w.alloc (.cells #[v0, v1, v2, v3, v4, v5] 49)).heap[w.heap.size]? = some (.cells #[v0, v1, v2, v3, v4, v5] 49 (0, 0))) := heap_alloc_last _ _
  have HT1 : Hid (Tu g bm w (w.alloc (.cells #[v0, v1, v2, v3, v4, v5] 49))) := Tu.gr ((Below.refl _ _).alloc (Nat.le_refl _) _)
  have HBX : Hid (g < w.heap.size ∧ bm < w.heap.size) := h.lt
  have HFEW := Lib.hid h.few
  have HMV := Lib.hid hmv
  have H6 := Lib.hid h6
  clear h hm hmv h6
  go_enter Try.func22, Try.ntmps22
  go_wp2_with fail
  generalize w.alloc (.cells #[v0, v1, v2, v3, v4, v5] 49) = w1 at HL1 HX1 HT1 ⊢
  obtain ⟨bx, hbx⟩ : ∃ b, b = w.heap.size := ⟨_, rfl⟩
  rw [← hbx] at HX1 HBX ⊢
  have HBXW := Lib.hid hbx
  clear hbx
  refine (isMade_yes g bm w1 HL1.out.row).mono ?_
  rintro e w' ⟨rfl, rfl⟩
  go_wp2_with fail
  refine (goOn_any g bm s w1 HL1.out).mono ?_
  rintro e w2 ⟨rfl, hl2, ht2⟩
  have HL2 := Lib.hid hl2
  have HX2 : Hid (w2.heap[bx]? = some (.cells #[v0, v1, v2, v3, v4, v5] 49 (0, 0))) := ht2.heap HX1.out (by have := HBX.out; omega) (by have := HBX.out; omega)
  have HT2 := Lib.hid (HT1.out.trans ht2)
  clear hl2 ht2 HL1 HX1 HT1
  obtain ⟨t, ht⟩ : ∃ t, t = tickOf S s := ⟨_, rfl⟩
  have HTK := Lib.hid ht
  clear ht
  have hrow : w2.heap[g]? = some (.cells #[.int .i64 S.all.e, .int .i64 S.all.m, .int .i64 S.own.e, .int .i64 S.own.m, .int .i64 S.b.k, .int .i64 S.b.t, .map (some bm), .int .i64 t] 63 (0, 0)) := by have := HL2.out.row; rw [HTK.out]; exact this
  have HROW := Lib.hid hrow
  obtain ⟨⟨vk, vt⟩, hV⟩ : ∃ x, x = (find (going S s).es m).getD zero := ⟨_, rfl⟩
  obtain ⟨B, hB⟩ : ∃ x, x = (find (going S s).es m).isSome := ⟨_, rfl⟩
  have HLK : Hid (∀ w', Below w2.heap.size w2 w' → (Instr.lookup 61 (.map (some bm)) (.agg #[v0, v1, v2, v3, v4, v5]) true).run Try.prog w' = .ok (.tuple #[.agg #[.int .i64 vk, .int .i64 vt], .bool B]) w') := fun w' hw => by
    have := (HL2.out.gr hw).map.look H6.out
    rw [HMV.out, ← hV, ← hB] at this
    exact this
  have HV := Lib.hid hV
  have HBB := Lib.hid hB
  clear hrow hV hB
  go_upto_region 4 with fail
  have HC : Hid (Gr w2 w2.drew) := Gr.drew w2
  refine wp_region_G 12 (Below (w2.heap.size)) (by kernel_rfl) ?_
  generalize w2.drew = wc at HC ⊢
  -- 0: slot 19
  refine wpG_take (preBelow (w2.heap.size)) (i := 0) (v := ?_) (by kernel_rfl) (some 19) (by kernel_rfl) rfl (by kernel_rfl) (by kernel_rfl) (by kernel_rfl) (fun _ _ _ h => h) (by rfl) (fun w' hw' => ?_) rfl ?_
  rotate_left
  · try (have hq8 := cells8 (heap_below HROW.out (Below.trans HC.out hw')); obtain ⟨k0, k1, k2, k3, k4, k5, k6, k7⟩ := hq8)
    try (have hq6 := cells6 (heap_below HX2.out (Below.trans HC.out hw')); obtain ⟨m0, m1, m2, m3, m4, m5⟩ := hq6)
    try have hlk := HLK.out _ (Below.trans HC.out hw')
    go_simp
    with_reducible rfl
  simp only [Act.put, List.setIfInBounds_toArray, List.set_cons_zero, List.set_cons_succ]
  -- 1: slot 20
  refine wpG_take (preBelow (w2.heap.size)) (i := 1) (v := ?_) (by kernel_rfl) (some 20) (by kernel_rfl) rfl (by kernel_rfl) (by kernel_rfl) (by kernel_rfl) (fun _ _ _ h => h) (by rfl) (fun w' hw' => ?_) rfl ?_
  rotate_left
  · try (have hq8 := cells8 (heap_below HROW.out (Below.trans HC.out hw')); obtain ⟨k0, k1, k2, k3, k4, k5, k6, k7⟩ := hq8)
    try (have hq6 := cells6 (heap_below HX2.out (Below.trans HC.out hw')); obtain ⟨m0, m1, m2, m3, m4, m5⟩ := hq6)
    try have hlk := HLK.out _ (Below.trans HC.out hw')
    go_simp
    with_reducible rfl
  simp only [Act.put, List.setIfInBounds_toArray, List.set_cons_zero, List.set_cons_succ]
  -- 2: slot 21
  refine wpG_take (preBelow (w2.heap.size)) (i := 2) (v := ?_) (by kernel_rfl) (some 21) (by kernel_rfl) rfl (by kernel_rfl) (by kernel_rfl) (by kernel_rfl) (fun _ _ _ h => h) (by rfl) (fun w' hw' => ?_) rfl ?_
  rotate_left
  · try (have hq8 := cells8 (heap_below HROW.out (Below.trans HC.out hw')); obtain ⟨k0, k1, k2, k3, k4, k5, k6, k7⟩ := hq8)
    try (have hq6 := cells6 (heap_below HX2.out (Below.trans HC.out hw')); obtain ⟨m0, m1, m2, m3, m4, m5⟩ := hq6)
    try have hlk := HLK.out _ (Below.trans HC.out hw')
    go_simp
    with_reducible rfl
  simp only [Act.put, List.setIfInBounds_toArray, List.set_cons_zero, List.set_cons_succ]
  -- 3: slot 22
  refine wpG_take (preBelow (w2.heap.size)) (i := 3) (v := ?_) (by kernel_rfl) (some 22) (by kernel_rfl) rfl (by kernel_rfl) (by kernel_rfl) (by kernel_rfl) (fun _ _ _ h => h) (by rfl) (fun w' hw' => ?_) rfl ?_
  rotate_left
  · try (have hq8 := cells8 (heap_below HROW.out (Below.trans HC.out hw')); obtain ⟨k0, k1, k2, k3, k4, k5, k6, k7⟩ := hq8)
    try (have hq6 := cells6 (heap_below HX2.out (Below.trans HC.out hw')); obtain ⟨m0, m1, m2, m3, m4, m5⟩ := hq6)
    try have hlk := HLK.out _ (Below.trans HC.out hw')
    go_simp
    with_reducible rfl
  simp only [Act.put, List.setIfInBounds_toArray, List.set_cons_zero, List.set_cons_succ]
  -- 4: slot 23
  refine wpG_take (preBelow (w2.heap.size)) (i := 4) (v := ?_) (by kernel_rfl) (some 23) (by kernel_rfl) rfl (by kernel_rfl) (by kernel_rfl) (by kernel_rfl) (fun _ _ _ h => h) (by rfl) (fun w' hw' => ?_) rfl ?_
  rotate_left
  · try (have hq8 := cells8 (heap_below HROW.out (Below.trans HC.out hw')); obtain ⟨k0, k1, k2, k3, k4, k5, k6, k7⟩ := hq8)
    try (have hq6 := cells6 (heap_below HX2.out (Below.trans HC.out hw')); obtain ⟨m0, m1, m2, m3, m4, m5⟩ := hq6)
    try have hlk := HLK.out _ (Below.trans HC.out hw')
    go_simp
    with_reducible rfl
  simp only [Act.put, List.setIfInBounds_toArray, List.set_cons_zero, List.set_cons_succ]
  -- 5: slot 24
  refine wpG_take (preBelow (w2.heap.size)) (i := 5) (v := ?_) (by kernel_rfl) (some 24) (by kernel_rfl) rfl (by kernel_rfl) (by kernel_rfl) (by kernel_rfl) (fun _ _ _ h => h) (by rfl) (fun w' hw' => ?_) rfl ?_
  rotate_left
  · try (have hq8 := cells8 (heap_below HROW.out (Below.trans HC.out hw')); obtain ⟨k0, k1, k2, k3, k4, k5, k6, k7⟩ := hq8)
    try (have hq6 := cells6 (heap_below HX2.out (Below.trans HC.out hw')); obtain ⟨m0, m1, m2, m3, m4, m5⟩ := hq6)
    try have hlk := HLK.out _ (Below.trans HC.out hw')
    go_simp
    with_reducible rfl
  simp only [Act.put, List.setIfInBounds_toArray, List.set_cons_zero, List.set_cons_succ]
  -- 6: slot 18
  refine wpG_take (preBelow (w2.heap.size)) (i := 6) (v := ?_) (by kernel_rfl) (some 18) (by kernel_rfl) rfl (by kernel_rfl) (by kernel_rfl) (by kernel_rfl) (fun _ _ _ h => h) (by rfl) (fun w' hw' => ?_) rfl ?_
  rotate_left
  · try (have hq8 := cells8 (heap_below HROW.out (Below.trans HC.out hw')); obtain ⟨k0, k1, k2, k3, k4, k5, k6, k7⟩ := hq8)
    try (have hq6 := cells6 (heap_below HX2.out (Below.trans HC.out hw')); obtain ⟨m0, m1, m2, m3, m4, m5⟩ := hq6)
    try have hlk := HLK.out _ (Below.trans HC.out hw')
    go_simp
    with_reducible rfl
  simp only [Act.put, List.setIfInBounds_toArray, List.set_cons_zero, List.set_cons_succ]
  -- 7: slot 25
  refine wpG_take (preBelow (w2.heap.size)) (i := 7) (v := ?_) (by kernel_rfl) (some 25) (by kernel_rfl) rfl (by kernel_rfl) (by kernel_rfl) (by kernel_rfl) (fun _ _ _ h => h) (by rfl) (fun w' hw' => ?_) rfl ?_
  rotate_left
  · try (have hq8 := cells8 (heap_below HROW.out (Below.trans HC.out hw')); obtain ⟨k0, k1, k2, k3, k4, k5, k6, k7⟩ := hq8)
    try (have hq6 := cells6 (heap_below HX2.out (Below.trans HC.out hw')); obtain ⟨m0, m1, m2, m3, m4, m5⟩ := hq6)
    try have hlk := HLK.out _ (Below.trans HC.out hw')
    go_simp
    with_reducible rfl
  simp only [Act.put, List.setIfInBounds_toArray, List.set_cons_zero, List.set_cons_succ]
  -- 8: slot 26
  refine wpG_take (preBelow (w2.heap.size)) (i := 8) (v := ?_) (by kernel_rfl) (some 26) (by kernel_rfl) rfl (by kernel_rfl) (by kernel_rfl) (by kernel_rfl) (fun _ _ _ h => h) (by rfl) (fun w' hw' => ?_) rfl ?_
  rotate_left
  · try (have hq8 := cells8 (heap_below HROW.out (Below.trans HC.out hw')); obtain ⟨k0, k1, k2, k3, k4, k5, k6, k7⟩ := hq8)
    try (have hq6 := cells6 (heap_below HX2.out (Below.trans HC.out hw')); obtain ⟨m0, m1, m2, m3, m4, m5⟩ := hq6)
    try have hlk := HLK.out _ (Below.trans HC.out hw')
    go_simp
    with_reducible rfl
  simp only [Act.put, List.setIfInBounds_toArray, List.set_cons_zero, List.set_cons_succ]
  refine wpG_one (i := 9) rfl (by kernel_rfl) (by rfl) ?_
  go_simp
  have hb : Below wc.heap.size wc (wc.alloc (.cells #[.int .i64 0, .int .i64 0] 25)) := (Below.refl _ _).alloc (Nat.le_refl _) _
  refine ⟨hb.mono (Below.size HC.out), ?_⟩
  have hk : (wc.alloc (.cells #[.int .i64 0, .int .i64 0] 25)).heap[wc.heap.size]? = some (.cells #[.int .i64 0, .int .i64 0] 25 (0, 0)) := heap_alloc_last _ _
  have hgb : w2.heap.size ≤ wc.heap.size := Below.size HC.out
  generalize wc.alloc (.cells #[.int .i64 0, .int .i64 0] 25) = wn at hb hk ⊢
  have HC' : Hid (Gr w2 wn) := Below.trans HC.out (Below.mono hb (Below.size HC.out))
  clear HC
  have HC := HC'
  clear HC'
  obtain ⟨g7, hgk⟩ : ∃ g, g = wc.heap.size := ⟨_, rfl⟩
  rw [← hgk] at hk hgb ⊢
  have HK := Lib.hid hk
  have HGB := Lib.hid hgb
  clear hgk hb hk hgb
  obtain ⟨wc, hwc⟩ : ∃ x, x = wn := ⟨_, rfl⟩
  subst hwc
  try simp only [Act.put, List.setIfInBounds_toArray, List.set_cons_zero, List.set_cons_succ]
  refine wpG_one (i := 10) rfl (by kernel_rfl) (by rfl) ?_
  refine wp_store_whole (none) 25 (.tmp 7) (.tmp 25) rfl g7 [.int .i64 vk, .int .i64 vt] rfl rfl 25 [.int .i64 0, .int .i64 0] HK.out (by kernel_rfl) rfl ?o1 rfl ?_
  case o1 => intro u hu; simp only [List.mem_cons, List.not_mem_nil, or_false] at hu; rcases hu with rfl | rfl <;> rfl
  intro wn h5 ho
  refine ⟨ho.below _ _ HGB.out (Below.refl _ _), ?_⟩
  have HK4 : Hid (wn.heap[g7]? = some (.cells #[.int .i64 vk, .int .i64 vt] 25 (0, 0))) := h5
  have HC4 : Hid (Gr w2 wn) := ho.below _ _ HGB.out HC.out
  clear h5 ho
  try simp only [Act.put, List.setIfInBounds_toArray, List.set_cons_zero, List.set_cons_succ]
  -- 11: slot 8
  refine wpG_take (preBelow (w2.heap.size)) (i := 11) (v := ?_) (by kernel_rfl) (some 8) (by kernel_rfl) rfl (by kernel_rfl) (by kernel_rfl) (by kernel_rfl) (fun _ _ _ h => h) (by rfl) (fun w' hw' => ?_) rfl ?_
  rotate_left
  · try (have hq8 := cells8 (heap_below HROW.out (Below.trans HC.out hw')); obtain ⟨k0, k1, k2, k3, k4, k5, k6, k7⟩ := hq8)
    try (have hq6 := cells6 (heap_below HX2.out (Below.trans HC.out hw')); obtain ⟨m0, m1, m2, m3, m4, m5⟩ := hq6)
    try have hlk := HLK.out _ (Below.trans HC.out hw')
    go_simp
    with_reducible rfl
  simp only [Act.put, List.setIfInBounds_toArray, List.set_cons_zero, List.set_cons_succ]
  refine wpG_done (by kernel_rfl) ?_ _
  have HL4 := Lib.hid (HL2.out.gr HC4.out)
  have HX4 := Lib.hid (heap_below HX2.out HC4.out)
  have HROW4 := Lib.hid (heap_below HROW.out HC4.out)
  have HT4 := Lib.hid (HT2.out.stepB HC4.out HT2.out.size)
  have HG7 : Hid (g < g7 ∧ bm < g7 ∧ bx < g7) := ⟨by have := HGB.out; have := HL2.out.lt; omega, by have := HGB.out; have := HL2.out.lt; omega, by have := HGB.out; have := (Array.getElem?_eq_some_iff.1 HX2.out).1; omega⟩
  clear HC HLK HL2 HX2 HROW HT2 HGB HC4 HK
  go_upto_if 28 with fail
  have HNO : Hid (room S m t = false → (allow S m s) = (going S s, false)) := by
    intro hr
    rw [allow_out HOK.out m s rfl rfl, ← HTK.out, hr]
    rfl
  have HRM : Hid (room S m t = (B || decide ((going S s).es.length < 256))) := by
    show _ = _
    rw [HTK.out, HBB.out]
    rfl
  go_cut [28] (fun _ wx => Hid (QA S s g bm bx g7 m v0 v1 v2 v3 v4 v5 w wx))
  case first =>
    cases B with
    | true =>
      have HQ : Hid (QA S s g bm bx g7 m v0 v1 v2 v3 v4 v5 w wn) := by
        refine ⟨HL4.out, ?_, HX4.out, by rw [← HTK.out, HRM.out]; rfl, HT4.out⟩
        obtain ⟨x, hx⟩ := Option.isSome_iff_exists.1 HBB.out.symm
        have hmi : mine S m (tickOf S s) = x := by unfold mine; rw [show find (kept S (tickOf S s)) m = some x from hx]; rfl
        have hv : (⟨vk, vt⟩ : Bu) = x := by rw [HV.out, hx]; rfl
        rw [hmi, ← hv]
        exact HK4.out
      go_wp2_with fail
      go_meet
      exact HQ
    | false =>
      have hl := fun ty => HL4.out.map.len ty
      obtain ⟨k0, k1, k2, k3, k4, k5, k6, k7⟩ := cells8 HROW4.out
      by_cases hn : (going S s).es.length < 256
      · have hn' : ¬ (256 : Int) ≤ ((going S s).es.length : Int) := by omega
        have HR : Hid (room S m (tickOf S s) = true) := by show _ = _; rw [← HTK.out, HRM.out, decide_eq_true hn]; rfl
        have FR : Hid (Calls Try.prog 33 #[.pointer (some ⟨g, 0, none⟩)] wn fun e w' => e = .returned (.agg #[.int .i64 S.own.m, .int .i64 t]) ∧ Below wn.heap.size wn w') := by rw [HTK.out]; exact fresh_any (S := going S s) g bm wn HL4.out.row
        have hmi : mine S m (tickOf S s) = ⟨S.own.m, tickOf S s⟩ := by
          have hx : find (kept S (tickOf S s)) m = none := none_of HBB.out
          unfold mine
          rw [hx]; rfl
        have HMI := Lib.hid hmi
        clear hn hmi
        go_wp2_with fail
        refine FR.out.mono ?_
        rintro e w5 ⟨rfl, hb⟩
        have HL5 := Lib.hid (HL4.out.gr hb)
        have HX5 := Lib.hid (heap_below HX4.out hb)
        have HT5 := Lib.hid (HT4.out.stepB hb HT4.out.size)
        have HK5 : Hid (w5.heap[g7]? = some (.cells [.int .i64 vk, .int .i64 vt].toArray 25 (0, 0))) := heap_below HK4.out hb
        clear hb hl k0 k1 k2 k3 k4 k5 k6 k7 FR
        go_wp2_with (with_reducible refine wpList_store_whole rfl 25 (.tmp 7) (.tmp 36) rfl g7 [.int .i64 S.own.m, .int .i64 t] rfl rfl 25 _ HK5.out ?s1 ?s2 ?s3 ?_)
        case s1 => kernel_rfl
        case s2 => rfl
        case s3 => intro u hu; simp only [List.mem_cons, List.not_mem_nil, or_false] at hu; rcases hu with rfl | rfl <;> rfl
        intro w6 h6 ho6
        have HQ : Hid (QA S s g bm bx g7 m v0 v1 v2 v3 v4 v5 w w6) := by
          have g1 := HG7.out
          have g2 := HL5.out.lt
          refine ⟨HL5.out.keep (ho6.heap _ g2.1 (by omega)) (ho6.heap _ g2.2 (by omega)), ?_, (ho6.heap _ (Array.getElem?_eq_some_iff.1 HX5.out).1 (by omega)).trans HX5.out, HR.out, HT5.out.stepB (ho6.below w.heap.size w5 (by have := HBXW.out; omega) (Below.refl _ _)) (Nat.le_refl _)⟩
          rw [HMI.out, ← HTK.out]
          exact h6
        clear h6 ho6
        go_wp2_with fail
        go_meet
        exact HQ
      · have hn' : (256 : Int) ≤ ((going S s).es.length : Int) := by omega
        have HA := Lib.hid (HNO.out (by rw [HRM.out, decide_eq_false hn]; rfl))
        clear hn
        go_wp2_with fail
        go_ret
        rw [HA.out]
        exact ⟨rfl, HL4.out, HT4.out⟩
  case rest =>
    obtain ⟨w5, hw5⟩ : ∃ x, x = wc := ⟨_, rfl⟩
    subst hw5
    have HQ5 := Lib.hid hcut.out
    clear HNO HRM HL4 HX4 HROW4 HT4 HK4 HV HBB
    obtain ⟨⟨ik, it⟩, hI⟩ : ∃ x, x = mine S m (tickOf S s) := ⟨_, rfl⟩
    obtain ⟨⟨⟨ak, az⟩, ab⟩, hA⟩ : ∃ x, x = takB S.all S.b (tickOf S s) := ⟨_, rfl⟩
    obtain ⟨⟨⟨ok, oz⟩, ob⟩, hO⟩ : ∃ x, x = takB S.own (mine S m (tickOf S s)) (tickOf S s) := ⟨_, rfl⟩
    have HOUT : Hid (allow S m s = if (ab && ob) then (⟨S.all, S.own, ⟨ak, az⟩, rest (going S s).es m ++ [(m, ⟨ok, oz⟩)], t⟩, true) else (going S s, false)) := by
      have := allow_out HOK.out m s hA hO
      rw [HQ5.out.room, ← HTK.out, Bool.true_and] at this
      exact this
    have TA : Hid (∀ w, Calls Try.prog 18 #[.agg #[.int .i64 S.all.e, .int .i64 S.all.m], .agg #[.int .i64 S.b.k, .int .i64 S.b.t], .int .i64 t] w fun e w' => e = .returned (.tuple #[.agg #[.int .i64 ak, .int .i64 az], .bool ab]) ∧ Below w.heap.size w w') := fun w => by
      have h1 := take_any S.all.e S.all.m S.b.k S.b.t t w
      have h2 : takB ⟨S.all.e, S.all.m⟩ ⟨S.b.k, S.b.t⟩ t = ((⟨ak, az⟩ : Bu), ab) := by rw [HTK.out]; exact hA.symm
      rw [h2] at h1
      exact h1
    have TO : Hid (∀ w, Calls Try.prog 18 #[.agg #[.int .i64 S.own.e, .int .i64 S.own.m], .agg #[.int .i64 ik, .int .i64 it], .int .i64 t] w fun e w' => e = .returned (.tuple #[.agg #[.int .i64 ok, .int .i64 oz], .bool ob]) ∧ Below w.heap.size w w') := fun w => by
      have h1 := take_any S.own.e S.own.m ik it t w
      have h2 : takB ⟨S.own.e, S.own.m⟩ ⟨ik, it⟩ t = ((⟨ok, oz⟩ : Bu), ob) := by rw [HTK.out, hI]; exact hO.symm
      rw [h2] at h1
      exact h1
    have hrow : w5.heap[g]? = some (.cells #[.int .i64 S.all.e, .int .i64 S.all.m, .int .i64 S.own.e, .int .i64 S.own.m, .int .i64 S.b.k, .int .i64 S.b.t, .map (some bm), .int .i64 t] 63 (0, 0)) := by have := HQ5.out.lim.row; rw [HTK.out]; exact this
    have hk7 : w5.heap[g7]? = some (.cells #[.int .i64 ik, .int .i64 it] 25 (0, 0)) := by have := HQ5.out.mine; rw [← hI] at this; exact this
    have HROW := Lib.hid hrow
    have HK7 := Lib.hid hk7
    clear hI hA hO hrow hk7 hcut
    go_upto_region 9 with fail
    go_cut [9, 10] (fun s9 s10 wx => ∃ g9, s9 = .pointer (some ⟨g9, 0, none⟩) ∧ s10 = .bool ab ∧ Hid (wx.heap[g9]? = some (.cells #[.int .i64 ak, .int .i64 az] 25 (0, 0))) ∧ Hid (w5.heap.size ≤ g9) ∧ Hid (Gr w5 wx))
    case first =>
      have HC : Hid (Gr w5 w5.drew) := Gr.drew w5
      refine wp_region_G 19 (Below (w5.heap.size)) (by kernel_rfl) ?_
      generalize w5.drew = wc at HC ⊢
      -- 0: slot 38
      refine wpG_take (preBelow (w5.heap.size)) (i := 0) (v := ?_) (by kernel_rfl) (some 38) (by kernel_rfl) rfl (by kernel_rfl) (by kernel_rfl) (by kernel_rfl) (fun _ _ _ h => h) (by rfl) (fun w' hw' => ?_) rfl ?_
      rotate_left
      · try (have hq8 := cells8 (heap_below HROW.out (Below.trans HC.out hw')); obtain ⟨k0, k1, k2, k3, k4, k5, k6, k7⟩ := hq8)
        go_simp
        with_reducible rfl
      simp only [Act.put, List.setIfInBounds_toArray, List.set_cons_zero, List.set_cons_succ]
      -- 1: slot 39
      refine wpG_take (preBelow (w5.heap.size)) (i := 1) (v := ?_) (by kernel_rfl) (some 39) (by kernel_rfl) rfl (by kernel_rfl) (by kernel_rfl) (by kernel_rfl) (fun _ _ _ h => h) (by rfl) (fun w' hw' => ?_) rfl ?_
      rotate_left
      · try (have hq8 := cells8 (heap_below HROW.out (Below.trans HC.out hw')); obtain ⟨k0, k1, k2, k3, k4, k5, k6, k7⟩ := hq8)
        go_simp
        with_reducible rfl
      simp only [Act.put, List.setIfInBounds_toArray, List.set_cons_zero, List.set_cons_succ]
      -- 2: slot 40
      refine wpG_take (preBelow (w5.heap.size)) (i := 2) (v := ?_) (by kernel_rfl) (some 40) (by kernel_rfl) rfl (by kernel_rfl) (by kernel_rfl) (by kernel_rfl) (fun _ _ _ h => h) (by rfl) (fun w' hw' => ?_) rfl ?_
      rotate_left
      · try (have hq8 := cells8 (heap_below HROW.out (Below.trans HC.out hw')); obtain ⟨k0, k1, k2, k3, k4, k5, k6, k7⟩ := hq8)
        go_simp
        with_reducible rfl
      simp only [Act.put, List.setIfInBounds_toArray, List.set_cons_zero, List.set_cons_succ]
      -- 3: slot 41
      refine wpG_take (preBelow (w5.heap.size)) (i := 3) (v := ?_) (by kernel_rfl) (some 41) (by kernel_rfl) rfl (by kernel_rfl) (by kernel_rfl) (by kernel_rfl) (fun _ _ _ h => h) (by rfl) (fun w' hw' => ?_) rfl ?_
      rotate_left
      · try (have hq8 := cells8 (heap_below HROW.out (Below.trans HC.out hw')); obtain ⟨k0, k1, k2, k3, k4, k5, k6, k7⟩ := hq8)
        go_simp
        with_reducible rfl
      simp only [Act.put, List.setIfInBounds_toArray, List.set_cons_zero, List.set_cons_succ]
      -- 4: slot 42
      refine wpG_take (preBelow (w5.heap.size)) (i := 4) (v := ?_) (by kernel_rfl) (some 42) (by kernel_rfl) rfl (by kernel_rfl) (by kernel_rfl) (by kernel_rfl) (fun _ _ _ h => h) (by rfl) (fun w' hw' => ?_) rfl ?_
      rotate_left
      · try (have hq8 := cells8 (heap_below HROW.out (Below.trans HC.out hw')); obtain ⟨k0, k1, k2, k3, k4, k5, k6, k7⟩ := hq8)
        go_simp
        with_reducible rfl
      simp only [Act.put, List.setIfInBounds_toArray, List.set_cons_zero, List.set_cons_succ]
      -- 5: slot 43
      refine wpG_take (preBelow (w5.heap.size)) (i := 5) (v := ?_) (by kernel_rfl) (some 43) (by kernel_rfl) rfl (by kernel_rfl) (by kernel_rfl) (by kernel_rfl) (fun _ _ _ h => h) (by rfl) (fun w' hw' => ?_) rfl ?_
      rotate_left
      · try (have hq8 := cells8 (heap_below HROW.out (Below.trans HC.out hw')); obtain ⟨k0, k1, k2, k3, k4, k5, k6, k7⟩ := hq8)
        go_simp
        with_reducible rfl
      simp only [Act.put, List.setIfInBounds_toArray, List.set_cons_zero, List.set_cons_succ]
      -- 6: slot 44
      refine wpG_take (preBelow (w5.heap.size)) (i := 6) (v := ?_) (by kernel_rfl) (some 44) (by kernel_rfl) rfl (by kernel_rfl) (by kernel_rfl) (by kernel_rfl) (fun _ _ _ h => h) (by rfl) (fun w' hw' => ?_) rfl ?_
      rotate_left
      · try (have hq8 := cells8 (heap_below HROW.out (Below.trans HC.out hw')); obtain ⟨k0, k1, k2, k3, k4, k5, k6, k7⟩ := hq8)
        go_simp
        with_reducible rfl
      simp only [Act.put, List.setIfInBounds_toArray, List.set_cons_zero, List.set_cons_succ]
      -- 7: slot 45
      refine wpG_take (preBelow (w5.heap.size)) (i := 7) (v := ?_) (by kernel_rfl) (some 45) (by kernel_rfl) rfl (by kernel_rfl) (by kernel_rfl) (by kernel_rfl) (fun _ _ _ h => h) (by rfl) (fun w' hw' => ?_) rfl ?_
      rotate_left
      · try (have hq8 := cells8 (heap_below HROW.out (Below.trans HC.out hw')); obtain ⟨k0, k1, k2, k3, k4, k5, k6, k7⟩ := hq8)
        go_simp
        with_reducible rfl
      simp only [Act.put, List.setIfInBounds_toArray, List.set_cons_zero, List.set_cons_succ]
      -- 8: slot 46
      refine wpG_take (preBelow (w5.heap.size)) (i := 8) (v := ?_) (by kernel_rfl) (some 46) (by kernel_rfl) rfl (by kernel_rfl) (by kernel_rfl) (by kernel_rfl) (fun _ _ _ h => h) (by rfl) (fun w' hw' => ?_) rfl ?_
      rotate_left
      · try (have hq8 := cells8 (heap_below HROW.out (Below.trans HC.out hw')); obtain ⟨k0, k1, k2, k3, k4, k5, k6, k7⟩ := hq8)
        go_simp
        with_reducible rfl
      simp only [Act.put, List.setIfInBounds_toArray, List.set_cons_zero, List.set_cons_succ]
      -- 9: slot 47
      refine wpG_take (preBelow (w5.heap.size)) (i := 9) (v := ?_) (by kernel_rfl) (some 47) (by kernel_rfl) rfl (by kernel_rfl) (by kernel_rfl) (by kernel_rfl) (fun _ _ _ h => h) (by rfl) (fun w' hw' => ?_) rfl ?_
      rotate_left
      · try (have hq8 := cells8 (heap_below HROW.out (Below.trans HC.out hw')); obtain ⟨k0, k1, k2, k3, k4, k5, k6, k7⟩ := hq8)
        go_simp
        with_reducible rfl
      simp only [Act.put, List.setIfInBounds_toArray, List.set_cons_zero, List.set_cons_succ]
      -- 10: slot 48
      refine wpG_take (preBelow (w5.heap.size)) (i := 10) (v := ?_) (by kernel_rfl) (some 48) (by kernel_rfl) rfl (by kernel_rfl) (by kernel_rfl) (by kernel_rfl) (fun _ _ _ h => h) (by rfl) (fun w' hw' => ?_) rfl ?_
      rotate_left
      · try (have hq8 := cells8 (heap_below HROW.out (Below.trans HC.out hw')); obtain ⟨k0, k1, k2, k3, k4, k5, k6, k7⟩ := hq8)
        go_simp
        with_reducible rfl
      simp only [Act.put, List.setIfInBounds_toArray, List.set_cons_zero, List.set_cons_succ]
      -- 11: slot 49
      refine wpG_take (preBelow (w5.heap.size)) (i := 11) (v := ?_) (by kernel_rfl) (some 49) (by kernel_rfl) rfl (by kernel_rfl) (by kernel_rfl) (by kernel_rfl) (fun _ _ _ h => h) (by rfl) (fun w' hw' => ?_) rfl ?_
      rotate_left
      · try (have hq8 := cells8 (heap_below HROW.out (Below.trans HC.out hw')); obtain ⟨k0, k1, k2, k3, k4, k5, k6, k7⟩ := hq8)
        go_simp
        with_reducible rfl
      simp only [Act.put, List.setIfInBounds_toArray, List.set_cons_zero, List.set_cons_succ]
      refine wpG_two (i := 12) (j := 16) rfl rfl (by kernel_rfl) (by rfl) (by rfl) ?_ ?_
      · go_simp
        refine (TA.out wc).mono ?_
        rintro e wn ⟨rfl, hb⟩
        refine ⟨hb.mono (Below.size HC.out), ?_⟩
        try (have HK' := Lib.hid (heap_below HK.out hb); clear HK; have HK := HK'; clear HK')
        have HC' : Hid (Gr w5 wn) := Below.trans HC.out (Below.mono hb (Below.size HC.out))
        clear HC hb
        have HC := HC'
        clear HC'
        obtain ⟨wc, hwc⟩ : ∃ x, x = wn := ⟨_, rfl⟩
        subst hwc
        try simp only [Act.put, List.setIfInBounds_toArray, List.set_cons_zero, List.set_cons_succ]
        -- 13: slot 37
        refine wpG_take (preBelow (w5.heap.size)) (i := 13) (v := ?_) (by kernel_rfl) (some 37) (by kernel_rfl) rfl (by kernel_rfl) (by kernel_rfl) (by kernel_rfl) (fun _ _ _ h => h) (by rfl) (fun w' hw' => ?_) rfl ?_
        rotate_left
        · try (have hq8 := cells8 (heap_below HROW.out (Below.trans HC.out hw')); obtain ⟨k0, k1, k2, k3, k4, k5, k6, k7⟩ := hq8)
          go_simp
          with_reducible rfl
        simp only [Act.put, List.setIfInBounds_toArray, List.set_cons_zero, List.set_cons_succ]
        -- 14: slot 51
        refine wpG_take (preBelow (w5.heap.size)) (i := 14) (v := ?_) (by kernel_rfl) (some 51) (by kernel_rfl) rfl (by kernel_rfl) (by kernel_rfl) (by kernel_rfl) (fun _ _ _ h => h) (by rfl) (fun w' hw' => ?_) rfl ?_
        rotate_left
        · try (have hq8 := cells8 (heap_below HROW.out (Below.trans HC.out hw')); obtain ⟨k0, k1, k2, k3, k4, k5, k6, k7⟩ := hq8)
          go_simp
          with_reducible rfl
        simp only [Act.put, List.setIfInBounds_toArray, List.set_cons_zero, List.set_cons_succ]
        -- 15: slot 52
        refine wpG_take (preBelow (w5.heap.size)) (i := 15) (v := ?_) (by kernel_rfl) (some 52) (by kernel_rfl) rfl (by kernel_rfl) (by kernel_rfl) (by kernel_rfl) (fun _ _ _ h => h) (by rfl) (fun w' hw' => ?_) rfl ?_
        rotate_left
        · try (have hq8 := cells8 (heap_below HROW.out (Below.trans HC.out hw')); obtain ⟨k0, k1, k2, k3, k4, k5, k6, k7⟩ := hq8)
          go_simp
          with_reducible rfl
        simp only [Act.put, List.setIfInBounds_toArray, List.set_cons_zero, List.set_cons_succ]
        refine wpG_one (i := 16) rfl (by kernel_rfl) (by rfl) ?_
        go_simp
        have hb : Below wc.heap.size wc (wc.alloc (.cells #[.int .i64 0, .int .i64 0] 25)) := (Below.refl _ _).alloc (Nat.le_refl _) _
        refine ⟨hb.mono (Below.size HC.out), ?_⟩
        have hk : (wc.alloc (.cells #[.int .i64 0, .int .i64 0] 25)).heap[wc.heap.size]? = some (.cells #[.int .i64 0, .int .i64 0] 25 (0, 0)) := heap_alloc_last _ _
        have hgb : w5.heap.size ≤ wc.heap.size := Below.size HC.out
        generalize wc.alloc (.cells #[.int .i64 0, .int .i64 0] 25) = wn at hb hk ⊢
        have HC' : Hid (Gr w5 wn) := Below.trans HC.out (Below.mono hb (Below.size HC.out))
        clear HC
        have HC := HC'
        clear HC'
        obtain ⟨g9, hgk⟩ : ∃ g, g = wc.heap.size := ⟨_, rfl⟩
        rw [← hgk] at hk hgb ⊢
        have HK := Lib.hid hk
        have HGB := Lib.hid hgb
        clear hgk hb hk hgb
        obtain ⟨wc, hwc⟩ : ∃ x, x = wn := ⟨_, rfl⟩
        subst hwc
        try simp only [Act.put, List.setIfInBounds_toArray, List.set_cons_zero, List.set_cons_succ]
        refine wpG_one (i := 17) rfl (by kernel_rfl) (by rfl) ?_
        refine wp_store_whole (none) 25 (.tmp 9) (.tmp 51) rfl g9 [.int .i64 ak, .int .i64 az] rfl rfl 25 [.int .i64 0, .int .i64 0] HK.out (by kernel_rfl) rfl ?o1 rfl ?_
        case o1 => intro u hu; simp only [List.mem_cons, List.not_mem_nil, or_false] at hu; rcases hu with rfl | rfl <;> rfl
        intro wn h5 ho
        refine ⟨ho.below _ _ HGB.out (Below.refl _ _), ?_⟩
        have HE5 : Hid (wn.heap[g9]? = some (.cells #[.int .i64 ak, .int .i64 az] 25 (0, 0))) := h5
        have HE6 : Hid (Gr w5 wn) := ho.below _ _ HGB.out HC.out
        clear h5 ho
        try simp only [Act.put, List.setIfInBounds_toArray, List.set_cons_zero, List.set_cons_succ]
        -- 18: slot 10
        refine wpG_take (preBelow (w5.heap.size)) (i := 18) (v := ?_) (by kernel_rfl) (some 10) (by kernel_rfl) rfl (by kernel_rfl) (by kernel_rfl) (by kernel_rfl) (fun _ _ _ h => h) (by rfl) (fun w' hw' => ?_) rfl ?_
        rotate_left
        · try (have hq8 := cells8 (heap_below HROW.out (Below.trans HC.out hw')); obtain ⟨k0, k1, k2, k3, k4, k5, k6, k7⟩ := hq8)
          go_simp
          with_reducible rfl
        simp only [Act.put, List.setIfInBounds_toArray, List.set_cons_zero, List.set_cons_succ]
        refine wpG_done (by kernel_rfl) ?_ _
        go_wp2_with fail
        go_meet
        exact ⟨g9, rfl, rfl, HE5, HGB, HE6⟩
      · go_simp
        have hb : Below wc.heap.size wc (wc.alloc (.cells #[.int .i64 0, .int .i64 0] 25)) := (Below.refl _ _).alloc (Nat.le_refl _) _
        refine ⟨hb.mono (Below.size HC.out), ?_⟩
        have hk : (wc.alloc (.cells #[.int .i64 0, .int .i64 0] 25)).heap[wc.heap.size]? = some (.cells #[.int .i64 0, .int .i64 0] 25 (0, 0)) := heap_alloc_last _ _
        have hgb : w5.heap.size ≤ wc.heap.size := Below.size HC.out
        generalize wc.alloc (.cells #[.int .i64 0, .int .i64 0] 25) = wn at hb hk ⊢
        have HC' : Hid (Gr w5 wn) := Below.trans HC.out (Below.mono hb (Below.size HC.out))
        clear HC
        have HC := HC'
        clear HC'
        obtain ⟨g9, hgk⟩ : ∃ g, g = wc.heap.size := ⟨_, rfl⟩
        rw [← hgk] at hk hgb ⊢
        have HK := Lib.hid hk
        have HGB := Lib.hid hgb
        clear hgk hb hk hgb
        obtain ⟨wc, hwc⟩ : ∃ x, x = wn := ⟨_, rfl⟩
        subst hwc
        try simp only [Act.put, List.setIfInBounds_toArray, List.set_cons_zero, List.set_cons_succ]
        refine wpG_one (i := 12) rfl (by kernel_rfl) (by rfl) ?_
        go_simp
        refine (TA.out wc).mono ?_
        rintro e wn ⟨rfl, hb⟩
        refine ⟨hb.mono (Below.size HC.out), ?_⟩
        try (have HK' := Lib.hid (heap_below HK.out hb); clear HK; have HK := HK'; clear HK')
        have HC' : Hid (Gr w5 wn) := Below.trans HC.out (Below.mono hb (Below.size HC.out))
        clear HC hb
        have HC := HC'
        clear HC'
        obtain ⟨wc, hwc⟩ : ∃ x, x = wn := ⟨_, rfl⟩
        subst hwc
        try simp only [Act.put, List.setIfInBounds_toArray, List.set_cons_zero, List.set_cons_succ]
        -- 13: slot 37
        refine wpG_take (preBelow (w5.heap.size)) (i := 13) (v := ?_) (by kernel_rfl) (some 37) (by kernel_rfl) rfl (by kernel_rfl) (by kernel_rfl) (by kernel_rfl) (fun _ _ _ h => h) (by rfl) (fun w' hw' => ?_) rfl ?_
        rotate_left
        · try (have hq8 := cells8 (heap_below HROW.out (Below.trans HC.out hw')); obtain ⟨k0, k1, k2, k3, k4, k5, k6, k7⟩ := hq8)
          go_simp
          with_reducible rfl
        simp only [Act.put, List.setIfInBounds_toArray, List.set_cons_zero, List.set_cons_succ]
        -- 14: slot 51
        refine wpG_take (preBelow (w5.heap.size)) (i := 14) (v := ?_) (by kernel_rfl) (some 51) (by kernel_rfl) rfl (by kernel_rfl) (by kernel_rfl) (by kernel_rfl) (fun _ _ _ h => h) (by rfl) (fun w' hw' => ?_) rfl ?_
        rotate_left
        · try (have hq8 := cells8 (heap_below HROW.out (Below.trans HC.out hw')); obtain ⟨k0, k1, k2, k3, k4, k5, k6, k7⟩ := hq8)
          go_simp
          with_reducible rfl
        simp only [Act.put, List.setIfInBounds_toArray, List.set_cons_zero, List.set_cons_succ]
        -- 15: slot 52
        refine wpG_take (preBelow (w5.heap.size)) (i := 15) (v := ?_) (by kernel_rfl) (some 52) (by kernel_rfl) rfl (by kernel_rfl) (by kernel_rfl) (by kernel_rfl) (fun _ _ _ h => h) (by rfl) (fun w' hw' => ?_) rfl ?_
        rotate_left
        · try (have hq8 := cells8 (heap_below HROW.out (Below.trans HC.out hw')); obtain ⟨k0, k1, k2, k3, k4, k5, k6, k7⟩ := hq8)
          go_simp
          with_reducible rfl
        simp only [Act.put, List.setIfInBounds_toArray, List.set_cons_zero, List.set_cons_succ]
        refine wpG_one (i := 17) rfl (by kernel_rfl) (by rfl) ?_
        refine wp_store_whole (none) 25 (.tmp 9) (.tmp 51) rfl g9 [.int .i64 ak, .int .i64 az] rfl rfl 25 [.int .i64 0, .int .i64 0] HK.out (by kernel_rfl) rfl ?o1 rfl ?_
        case o1 => intro u hu; simp only [List.mem_cons, List.not_mem_nil, or_false] at hu; rcases hu with rfl | rfl <;> rfl
        intro wn h5 ho
        refine ⟨ho.below _ _ HGB.out (Below.refl _ _), ?_⟩
        have HE5 : Hid (wn.heap[g9]? = some (.cells #[.int .i64 ak, .int .i64 az] 25 (0, 0))) := h5
        have HE6 : Hid (Gr w5 wn) := ho.below _ _ HGB.out HC.out
        clear h5 ho
        try simp only [Act.put, List.setIfInBounds_toArray, List.set_cons_zero, List.set_cons_succ]
        -- 18: slot 10
        refine wpG_take (preBelow (w5.heap.size)) (i := 18) (v := ?_) (by kernel_rfl) (some 10) (by kernel_rfl) rfl (by kernel_rfl) (by kernel_rfl) (by kernel_rfl) (fun _ _ _ h => h) (by rfl) (fun w' hw' => ?_) rfl ?_
        rotate_left
        · try (have hq8 := cells8 (heap_below HROW.out (Below.trans HC.out hw')); obtain ⟨k0, k1, k2, k3, k4, k5, k6, k7⟩ := hq8)
          go_simp
          with_reducible rfl
        simp only [Act.put, List.setIfInBounds_toArray, List.set_cons_zero, List.set_cons_succ]
        refine wpG_done (by kernel_rfl) ?_ _
        go_wp2_with fail
        go_meet
        exact ⟨g9, rfl, rfl, HE5, HGB, HE6⟩
    case rest =>
      obtain ⟨g9, hs9, hs10, hq9, hg9, hb⟩ := hcut
      subst hs9 hs10
      have HQ6 := Lib.hid (HQ5.out.gr hb.out)
      have HROW6 := Lib.hid (heap_below HROW.out hb.out)
      have HK76 := Lib.hid (heap_below HK7.out hb.out)
      have HK96 := Lib.hid hq9.out
      have HG9 : Hid (g < g9 ∧ bm < g9 ∧ bx < g9 ∧ g7 < g9) := by
        have h1 := HG7.out
        have h2 := (Array.getElem?_eq_some_iff.1 HK7.out).1
        have h3 := hg9.out
        exact ⟨by omega, by omega, by omega, by omega⟩
      obtain ⟨w6, hw6⟩ : ∃ x, x = wc := ⟨_, rfl⟩
      subst hw6
      clear hq9 hg9 hb HQ5 HROW HK7 TA
      go_upto_region 10 with fail
      have HC : Hid (Gr w6 w6.drew) := Gr.drew w6
      refine wp_region_H 13 Gr Any (by kernel_rfl) ?_
      generalize w6.drew = wc at HC ⊢
      -- 0: slot 54
      refine wpH_take preGr preAny (i := 0) (v := ?_) (by kernel_rfl) (some 54) (by kernel_rfl) rfl (by kernel_rfl) (by kernel_rfl) (by kernel_rfl) (fun _ _ _ h => h) (by rfl) (fun w' hw' => ?_) rfl ?_
      rotate_left
      · try (have hq8 := cells8 (heap_below HROW6.out (Gr.trans HC.out hw')); obtain ⟨k0, k1, k2, k3, k4, k5, k6, k7⟩ := hq8)
        try (have hq2 := cells2 (heap_below HK76.out (Gr.trans HC.out hw')); obtain ⟨m0, m1⟩ := hq2)
        go_simp
        with_reducible rfl
      simp only [Act.put, List.setIfInBounds_toArray, List.set_cons_zero, List.set_cons_succ]
      -- 1: slot 55
      refine wpH_take preGr preAny (i := 1) (v := ?_) (by kernel_rfl) (some 55) (by kernel_rfl) rfl (by kernel_rfl) (by kernel_rfl) (by kernel_rfl) (fun _ _ _ h => h) (by rfl) (fun w' hw' => ?_) rfl ?_
      rotate_left
      · try (have hq8 := cells8 (heap_below HROW6.out (Gr.trans HC.out hw')); obtain ⟨k0, k1, k2, k3, k4, k5, k6, k7⟩ := hq8)
        try (have hq2 := cells2 (heap_below HK76.out (Gr.trans HC.out hw')); obtain ⟨m0, m1⟩ := hq2)
        go_simp
        with_reducible rfl
      simp only [Act.put, List.setIfInBounds_toArray, List.set_cons_zero, List.set_cons_succ]
      -- 2: slot 56
      refine wpH_take preGr preAny (i := 2) (v := ?_) (by kernel_rfl) (some 56) (by kernel_rfl) rfl (by kernel_rfl) (by kernel_rfl) (by kernel_rfl) (fun _ _ _ h => h) (by rfl) (fun w' hw' => ?_) rfl ?_
      rotate_left
      · try (have hq8 := cells8 (heap_below HROW6.out (Gr.trans HC.out hw')); obtain ⟨k0, k1, k2, k3, k4, k5, k6, k7⟩ := hq8)
        try (have hq2 := cells2 (heap_below HK76.out (Gr.trans HC.out hw')); obtain ⟨m0, m1⟩ := hq2)
        go_simp
        with_reducible rfl
      simp only [Act.put, List.setIfInBounds_toArray, List.set_cons_zero, List.set_cons_succ]
      -- 3: slot 57
      refine wpH_take preGr preAny (i := 3) (v := ?_) (by kernel_rfl) (some 57) (by kernel_rfl) rfl (by kernel_rfl) (by kernel_rfl) (by kernel_rfl) (fun _ _ _ h => h) (by rfl) (fun w' hw' => ?_) rfl ?_
      rotate_left
      · try (have hq8 := cells8 (heap_below HROW6.out (Gr.trans HC.out hw')); obtain ⟨k0, k1, k2, k3, k4, k5, k6, k7⟩ := hq8)
        try (have hq2 := cells2 (heap_below HK76.out (Gr.trans HC.out hw')); obtain ⟨m0, m1⟩ := hq2)
        go_simp
        with_reducible rfl
      simp only [Act.put, List.setIfInBounds_toArray, List.set_cons_zero, List.set_cons_succ]
      -- 4: slot 58
      refine wpH_take preGr preAny (i := 4) (v := ?_) (by kernel_rfl) (some 58) (by kernel_rfl) rfl (by kernel_rfl) (by kernel_rfl) (by kernel_rfl) (fun _ _ _ h => h) (by rfl) (fun w' hw' => ?_) rfl ?_
      rotate_left
      · try (have hq8 := cells8 (heap_below HROW6.out (Gr.trans HC.out hw')); obtain ⟨k0, k1, k2, k3, k4, k5, k6, k7⟩ := hq8)
        try (have hq2 := cells2 (heap_below HK76.out (Gr.trans HC.out hw')); obtain ⟨m0, m1⟩ := hq2)
        go_simp
        with_reducible rfl
      simp only [Act.put, List.setIfInBounds_toArray, List.set_cons_zero, List.set_cons_succ]
      -- 5: slot 59
      refine wpH_take preGr preAny (i := 5) (v := ?_) (by kernel_rfl) (some 59) (by kernel_rfl) rfl (by kernel_rfl) (by kernel_rfl) (by kernel_rfl) (fun _ _ _ h => h) (by rfl) (fun w' hw' => ?_) rfl ?_
      rotate_left
      · try (have hq8 := cells8 (heap_below HROW6.out (Gr.trans HC.out hw')); obtain ⟨k0, k1, k2, k3, k4, k5, k6, k7⟩ := hq8)
        try (have hq2 := cells2 (heap_below HK76.out (Gr.trans HC.out hw')); obtain ⟨m0, m1⟩ := hq2)
        go_simp
        with_reducible rfl
      simp only [Act.put, List.setIfInBounds_toArray, List.set_cons_zero, List.set_cons_succ]
      -- 6: slot 60
      refine wpH_take preGr preAny (i := 6) (v := ?_) (by kernel_rfl) (some 60) (by kernel_rfl) rfl (by kernel_rfl) (by kernel_rfl) (by kernel_rfl) (fun _ _ _ h => h) (by rfl) (fun w' hw' => ?_) rfl ?_
      rotate_left
      · try (have hq8 := cells8 (heap_below HROW6.out (Gr.trans HC.out hw')); obtain ⟨k0, k1, k2, k3, k4, k5, k6, k7⟩ := hq8)
        try (have hq2 := cells2 (heap_below HK76.out (Gr.trans HC.out hw')); obtain ⟨m0, m1⟩ := hq2)
        go_simp
        with_reducible rfl
      simp only [Act.put, List.setIfInBounds_toArray, List.set_cons_zero, List.set_cons_succ]
      -- 7: slot 61
      refine wpH_take preGr preAny (i := 7) (v := ?_) (by kernel_rfl) (some 61) (by kernel_rfl) rfl (by kernel_rfl) (by kernel_rfl) (by kernel_rfl) (fun _ _ _ h => h) (by rfl) (fun w' hw' => ?_) rfl ?_
      rotate_left
      · try (have hq8 := cells8 (heap_below HROW6.out (Gr.trans HC.out hw')); obtain ⟨k0, k1, k2, k3, k4, k5, k6, k7⟩ := hq8)
        try (have hq2 := cells2 (heap_below HK76.out (Gr.trans HC.out hw')); obtain ⟨m0, m1⟩ := hq2)
        go_simp
        with_reducible rfl
      simp only [Act.put, List.setIfInBounds_toArray, List.set_cons_zero, List.set_cons_succ]
      -- 8: slot 62
      refine wpH_take preGr preAny (i := 8) (v := ?_) (by kernel_rfl) (some 62) (by kernel_rfl) rfl (by kernel_rfl) (by kernel_rfl) (by kernel_rfl) (fun _ _ _ h => h) (by rfl) (fun w' hw' => ?_) rfl ?_
      rotate_left
      · try (have hq8 := cells8 (heap_below HROW6.out (Gr.trans HC.out hw')); obtain ⟨k0, k1, k2, k3, k4, k5, k6, k7⟩ := hq8)
        try (have hq2 := cells2 (heap_below HK76.out (Gr.trans HC.out hw')); obtain ⟨m0, m1⟩ := hq2)
        go_simp
        with_reducible rfl
      simp only [Act.put, List.setIfInBounds_toArray, List.set_cons_zero, List.set_cons_succ]
      refine wpH_one (i := 9) rfl (by kernel_rfl) (by rfl) ?_
      go_simp
      refine (TO.out wc).mono ?_
      rintro e wn ⟨rfl, hb⟩
      refine ⟨hb, trivial, ?_⟩
      have HC' : Hid (Gr w6 wn) := Gr.trans HC.out hb
      clear HC hb
      have HC := HC'
      clear HC'
      obtain ⟨wc, hwc⟩ : ∃ x, x = wn := ⟨_, rfl⟩
      subst hwc
      try simp only [Act.put, List.setIfInBounds_toArray, List.set_cons_zero, List.set_cons_succ]
      -- 10: slot 53
      refine wpH_take preGr preAny (i := 10) (v := ?_) (by kernel_rfl) (some 53) (by kernel_rfl) rfl (by kernel_rfl) (by kernel_rfl) (by kernel_rfl) (fun _ _ _ h => h) (by rfl) (fun w' hw' => ?_) rfl ?_
      rotate_left
      · try (have hq8 := cells8 (heap_below HROW6.out (Gr.trans HC.out hw')); obtain ⟨k0, k1, k2, k3, k4, k5, k6, k7⟩ := hq8)
        try (have hq2 := cells2 (heap_below HK76.out (Gr.trans HC.out hw')); obtain ⟨m0, m1⟩ := hq2)
        go_simp
        with_reducible rfl
      simp only [Act.put, List.setIfInBounds_toArray, List.set_cons_zero, List.set_cons_succ]
      -- 11: slot 64
      refine wpH_take preGr preAny (i := 11) (v := ?_) (by kernel_rfl) (some 64) (by kernel_rfl) rfl (by kernel_rfl) (by kernel_rfl) (by kernel_rfl) (fun _ _ _ h => h) (by rfl) (fun w' hw' => ?_) rfl ?_
      rotate_left
      · try (have hq8 := cells8 (heap_below HROW6.out (Gr.trans HC.out hw')); obtain ⟨k0, k1, k2, k3, k4, k5, k6, k7⟩ := hq8)
        try (have hq2 := cells2 (heap_below HK76.out (Gr.trans HC.out hw')); obtain ⟨m0, m1⟩ := hq2)
        go_simp
        with_reducible rfl
      simp only [Act.put, List.setIfInBounds_toArray, List.set_cons_zero, List.set_cons_succ]
      -- 12: slot 65
      refine wpH_takeH preGr preAny (i := 12) (v := ?_) (some 65) (by kernel_rfl) rfl (by kernel_rfl) (by kernel_rfl) (by kernel_rfl) (fun _ _ _ h => h) (by rfl) (fun w' hw' => ?_) rfl ?_
      rotate_left
      · go_simp
        with_reducible rfl
      simp only [Act.put, List.setIfInBounds_toArray, List.set_cons_zero, List.set_cons_succ]
      refine wpH_tail (i := 13) (by decide) rfl (by kernel_rfl) (by rfl) ?_
      refine wp_store_whole (none) 25 (.tmp 7) (.tmp 64) rfl g7 [.int .i64 ok, .int .i64 oz] rfl rfl 25 [.int .i64 ik, .int .i64 it] (heap_below HK76.out HC.out) (by kernel_rfl) rfl ?o1 rfl ?_
      case o1 => intro u hu; simp only [List.mem_cons, List.not_mem_nil, or_false] at hu; rcases hu with rfl | rfl <;> rfl
      intro w7 h5 ho
      refine ⟨trivial, ?_⟩
      have g1 := HG7.out
      have g2 := HG9.out
      have q1 := HQ6.out.gr HC.out
      have HK77 : Hid (w7.heap[g7]? = some (.cells #[.int .i64 ok, .int .i64 oz] 25 (0, 0))) := h5
      have HL7 : Hid (LimAt w7 g bm (going S s)) := q1.lim.keep (ho.heap _ q1.lim.lt.1 (by omega)) (ho.heap _ q1.lim.lt.2 (by omega))
      have HROW7 : Hid (w7.heap[g]? = some (.cells #[.int .i64 S.all.e, .int .i64 S.all.m, .int .i64 S.own.e, .int .i64 S.own.m, .int .i64 S.b.k, .int .i64 S.b.t, .map (some bm), .int .i64 t] 63 (0, 0))) := (ho.heap _ q1.lim.lt.1 (by omega)).trans (heap_below HROW6.out HC.out)
      have HX7 : Hid (w7.heap[bx]? = some (.cells #[v0, v1, v2, v3, v4, v5] 49 (0, 0))) := (ho.heap _ (Array.getElem?_eq_some_iff.1 q1.box).1 (by omega)).trans q1.box
      have HK97 : Hid (w7.heap[g9]? = some (.cells #[.int .i64 ak, .int .i64 az] 25 (0, 0))) := (ho.heap _ (Array.getElem?_eq_some_iff.1 (heap_below HK96.out HC.out)).1 (by omega)).trans (heap_below HK96.out HC.out)
      have HT7 : Hid (Tu g bm w w7) := q1.tu.stepB (ho.below w.heap.size _ (by have := HBXW.out; omega) (Below.refl _ _)) (Nat.le_refl _)
      clear g1 g2 q1 h5 ho
      try simp only [Act.put, List.setIfInBounds_toArray, List.set_cons_zero, List.set_cons_succ]
      refine wpH_tail (i := 14) (by decide) rfl (by kernel_rfl) (by rfl) ?_
      go_simp
      refine ⟨(pre_refl preAny _), ?_⟩
      try simp only [Act.put, List.setIfInBounds_toArray, List.set_cons_zero, List.set_cons_succ]
      refine wpH_done (by kernel_rfl) ?_ _
      clear HC HQ6 HROW6 HK76 HK96 TO
      have HNO : Hid ((ab && ob) = false → allow S m s = (going S s, false)) := fun h => by rw [HOUT.out, h]; rfl
      cases ab with
      | false =>
        have HA := Lib.hid (HNO.out rfl)
        go_wp2_with fail
        go_ret
        rw [HA.out]
        exact ⟨rfl, HL7.out, HT7.out⟩
      | true =>
        cases ob with
        | false =>
          have HA := Lib.hid (HNO.out rfl)
          go_wp2_with fail
          go_ret
          rw [HA.out]
          exact ⟨rfl, HL7.out, HT7.out⟩
        | true =>
          have HA : Hid (allow S m s = (⟨S.all, S.own, ⟨ak, az⟩, rest (going S s).es m ++ [(m, ⟨ok, oz⟩)], t⟩, true)) := HOUT.out
          clear HNO HOUT
          go_upto_region 13 with fail
          have HC : Hid (Gr w7 w7.drew) := Gr.drew w7
          refine wp_region_H 10 Gr (Kp [g7,bx]) (by kernel_rfl) ?_
          generalize w7.drew = wc at HC ⊢
          -- 0: slot 72
          refine wpH_take preGr (preKp _) (i := 0) (v := ?_) (by kernel_rfl) (some 72) (by kernel_rfl) rfl (by kernel_rfl) (by kernel_rfl) (by kernel_rfl) (fun _ _ _ h => h) (by rfl) (fun w' hw' => ?_) rfl ?_
          rotate_left
          · try (have hq8 := cells8 (heap_below HROW7.out (Gr.trans HC.out hw')); obtain ⟨k0, k1, k2, k3, k4, k5, k6, k7⟩ := hq8)
            try (have hq6 := cells6 (heap_below HX7.out (Gr.trans HC.out hw')); obtain ⟨m0, m1, m2, m3, m4, m5⟩ := hq6)
            try (have hq2 := cells2 (heap_below HK97.out (Gr.trans HC.out hw')); obtain ⟨n0, n1⟩ := hq2)
            go_simp
            with_reducible rfl
          simp only [Act.put, List.setIfInBounds_toArray, List.set_cons_zero, List.set_cons_succ]
          -- 1: slot 73
          refine wpH_take preGr (preKp _) (i := 1) (v := ?_) (by kernel_rfl) (some 73) (by kernel_rfl) rfl (by kernel_rfl) (by kernel_rfl) (by kernel_rfl) (fun _ _ _ h => h) (by rfl) (fun w' hw' => ?_) rfl ?_
          rotate_left
          · try (have hq8 := cells8 (heap_below HROW7.out (Gr.trans HC.out hw')); obtain ⟨k0, k1, k2, k3, k4, k5, k6, k7⟩ := hq8)
            try (have hq6 := cells6 (heap_below HX7.out (Gr.trans HC.out hw')); obtain ⟨m0, m1, m2, m3, m4, m5⟩ := hq6)
            try (have hq2 := cells2 (heap_below HK97.out (Gr.trans HC.out hw')); obtain ⟨n0, n1⟩ := hq2)
            go_simp
            with_reducible rfl
          simp only [Act.put, List.setIfInBounds_toArray, List.set_cons_zero, List.set_cons_succ]
          -- 2: slot 74
          refine wpH_take preGr (preKp _) (i := 2) (v := ?_) (by kernel_rfl) (some 74) (by kernel_rfl) rfl (by kernel_rfl) (by kernel_rfl) (by kernel_rfl) (fun _ _ _ h => h) (by rfl) (fun w' hw' => ?_) rfl ?_
          rotate_left
          · try (have hq8 := cells8 (heap_below HROW7.out (Gr.trans HC.out hw')); obtain ⟨k0, k1, k2, k3, k4, k5, k6, k7⟩ := hq8)
            try (have hq6 := cells6 (heap_below HX7.out (Gr.trans HC.out hw')); obtain ⟨m0, m1, m2, m3, m4, m5⟩ := hq6)
            try (have hq2 := cells2 (heap_below HK97.out (Gr.trans HC.out hw')); obtain ⟨n0, n1⟩ := hq2)
            go_simp
            with_reducible rfl
          simp only [Act.put, List.setIfInBounds_toArray, List.set_cons_zero, List.set_cons_succ]
          -- 3: slot 75
          refine wpH_take preGr (preKp _) (i := 3) (v := ?_) (by kernel_rfl) (some 75) (by kernel_rfl) rfl (by kernel_rfl) (by kernel_rfl) (by kernel_rfl) (fun _ _ _ h => h) (by rfl) (fun w' hw' => ?_) rfl ?_
          rotate_left
          · try (have hq8 := cells8 (heap_below HROW7.out (Gr.trans HC.out hw')); obtain ⟨k0, k1, k2, k3, k4, k5, k6, k7⟩ := hq8)
            try (have hq6 := cells6 (heap_below HX7.out (Gr.trans HC.out hw')); obtain ⟨m0, m1, m2, m3, m4, m5⟩ := hq6)
            try (have hq2 := cells2 (heap_below HK97.out (Gr.trans HC.out hw')); obtain ⟨n0, n1⟩ := hq2)
            go_simp
            with_reducible rfl
          simp only [Act.put, List.setIfInBounds_toArray, List.set_cons_zero, List.set_cons_succ]
          -- 4: slot 76
          refine wpH_take preGr (preKp _) (i := 4) (v := ?_) (by kernel_rfl) (some 76) (by kernel_rfl) rfl (by kernel_rfl) (by kernel_rfl) (by kernel_rfl) (fun _ _ _ h => h) (by rfl) (fun w' hw' => ?_) rfl ?_
          rotate_left
          · try (have hq8 := cells8 (heap_below HROW7.out (Gr.trans HC.out hw')); obtain ⟨k0, k1, k2, k3, k4, k5, k6, k7⟩ := hq8)
            try (have hq6 := cells6 (heap_below HX7.out (Gr.trans HC.out hw')); obtain ⟨m0, m1, m2, m3, m4, m5⟩ := hq6)
            try (have hq2 := cells2 (heap_below HK97.out (Gr.trans HC.out hw')); obtain ⟨n0, n1⟩ := hq2)
            go_simp
            with_reducible rfl
          simp only [Act.put, List.setIfInBounds_toArray, List.set_cons_zero, List.set_cons_succ]
          -- 5: slot 77
          refine wpH_takeH preGr (preKp _) (i := 5) (v := ?_) (some 77) (by kernel_rfl) rfl (by kernel_rfl) (by kernel_rfl) (by kernel_rfl) (fun _ _ _ h => h) (by rfl) (fun w' hw' => ?_) rfl ?_
          rotate_left
          · try (have hq2 := cells2 ((hw'.2 g7 (by simp)).trans (heap_below HK77.out HC.out)); obtain ⟨n0, n1⟩ := hq2)
            try (have hq6 := cells6 ((hw'.2 bx (by simp)).trans (heap_below HX7.out HC.out)); obtain ⟨m0, m1, m2, m3, m4, m5⟩ := hq6)
            go_simp
            with_reducible rfl
          simp only [Act.put, List.setIfInBounds_toArray, List.set_cons_zero, List.set_cons_succ]
          -- 6: slot 78
          refine wpH_take preGr (preKp _) (i := 6) (v := ?_) (by kernel_rfl) (some 78) (by kernel_rfl) rfl (by kernel_rfl) (by kernel_rfl) (by kernel_rfl) (fun _ _ _ h => h) (by rfl) (fun w' hw' => ?_) rfl ?_
          rotate_left
          · try (have hq8 := cells8 (heap_below HROW7.out (Gr.trans HC.out hw')); obtain ⟨k0, k1, k2, k3, k4, k5, k6, k7⟩ := hq8)
            try (have hq6 := cells6 (heap_below HX7.out (Gr.trans HC.out hw')); obtain ⟨m0, m1, m2, m3, m4, m5⟩ := hq6)
            try (have hq2 := cells2 (heap_below HK97.out (Gr.trans HC.out hw')); obtain ⟨n0, n1⟩ := hq2)
            go_simp
            with_reducible rfl
          simp only [Act.put, List.setIfInBounds_toArray, List.set_cons_zero, List.set_cons_succ]
          -- 7: slot 79
          refine wpH_takeH preGr (preKp _) (i := 7) (v := ?_) (some 79) (by kernel_rfl) rfl (by kernel_rfl) (by kernel_rfl) (by kernel_rfl) (fun _ _ _ h => h) (by rfl) (fun w' hw' => ?_) rfl ?_
          rotate_left
          · try (have hq2 := cells2 ((hw'.2 g7 (by simp)).trans (heap_below HK77.out HC.out)); obtain ⟨n0, n1⟩ := hq2)
            try (have hq6 := cells6 ((hw'.2 bx (by simp)).trans (heap_below HX7.out HC.out)); obtain ⟨m0, m1, m2, m3, m4, m5⟩ := hq6)
            go_simp
            with_reducible rfl
          simp only [Act.put, List.setIfInBounds_toArray, List.set_cons_zero, List.set_cons_succ]
          -- 8: slot 80
          refine wpH_take preGr (preKp _) (i := 8) (v := ?_) (by kernel_rfl) (some 80) (by kernel_rfl) rfl (by kernel_rfl) (by kernel_rfl) (by kernel_rfl) (fun _ _ _ h => h) (by rfl) (fun w' hw' => ?_) rfl ?_
          rotate_left
          · try (have hq8 := cells8 (heap_below HROW7.out (Gr.trans HC.out hw')); obtain ⟨k0, k1, k2, k3, k4, k5, k6, k7⟩ := hq8)
            try (have hq6 := cells6 (heap_below HX7.out (Gr.trans HC.out hw')); obtain ⟨m0, m1, m2, m3, m4, m5⟩ := hq6)
            try (have hq2 := cells2 (heap_below HK97.out (Gr.trans HC.out hw')); obtain ⟨n0, n1⟩ := hq2)
            go_simp
            with_reducible rfl
          simp only [Act.put, List.setIfInBounds_toArray, List.set_cons_zero, List.set_cons_succ]
          -- 9: slot 81
          refine wpH_take preGr (preKp _) (i := 9) (v := ?_) (by kernel_rfl) (some 81) (by kernel_rfl) rfl (by kernel_rfl) (by kernel_rfl) (by kernel_rfl) (fun _ _ _ h => h) (by rfl) (fun w' hw' => ?_) rfl ?_
          rotate_left
          · try (have hq8 := cells8 (heap_below HROW7.out (Gr.trans HC.out hw')); obtain ⟨k0, k1, k2, k3, k4, k5, k6, k7⟩ := hq8)
            try (have hq6 := cells6 (heap_below HX7.out (Gr.trans HC.out hw')); obtain ⟨m0, m1, m2, m3, m4, m5⟩ := hq6)
            try (have hq2 := cells2 (heap_below HK97.out (Gr.trans HC.out hw')); obtain ⟨n0, n1⟩ := hq2)
            go_simp
            with_reducible rfl
          simp only [Act.put, List.setIfInBounds_toArray, List.set_cons_zero, List.set_cons_succ]
          refine wpH_tail (i := 10) (by decide) rfl (by kernel_rfl) (by rfl) ?_
          refine wp_store_splice (none) 25 (.tmp 81) (.tmp 78) rfl g 4 [.int .i64 ak, .int .i64 az] rfl rfl 63 [.int .i64 S.all.e, .int .i64 S.all.m, .int .i64 S.own.e, .int .i64 S.own.m, .int .i64 S.b.k, .int .i64 S.b.t, .map (some bm), .int .i64 t] (heap_below HROW7.out HC.out) (by kernel_rfl) (by simp) ?o1 rfl ?_
          case o1 => intro u hu; simp only [List.mem_cons, List.not_mem_nil, or_false] at hu; rcases hu with rfl | rfl <;> rfl
          intro w8 h5 ho
          have g1 := HG7.out
          have g2 := HBX.out
          have hk7' := heap_below HK77.out HC.out
          have hx7' := heap_below HX7.out HC.out
          refine ⟨⟨ho.1, fun b hb => ?_⟩, ?_⟩
          · rcases (by simpa using hb : b = g7 ∨ b = bx) with rfl | rfl
            · exact ho.heap _ (Array.getElem?_eq_some_iff.1 hk7').1 (by omega)
            · exact ho.heap _ (Array.getElem?_eq_some_iff.1 hx7').1 (by omega)
          have HROW8 : Hid (w8.heap[g]? = some (.cells #[.int .i64 S.all.e, .int .i64 S.all.m, .int .i64 S.own.e, .int .i64 S.own.m, .int .i64 ak, .int .i64 az, .map (some bm), .int .i64 t] 63 (0, 0))) := h5
          have q1 := HL7.out.gr HC.out
          have HM8 : Hid (MapAt w8 bm (going S s).es) := q1.map.keep (ho.heap _ q1.lt.2 (Ne.symm q1.ne))
          have HT8 : Hid (Tu g bm w w8) := (HT7.out.stepB HC.out HT7.out.size).trans ⟨(ho.below 0 _ (Nat.zero_le _) (Below.refl _ _)).os, (ho.below 0 _ (Nat.zero_le _) (Below.refl _ _)).tape, (ho.below 0 _ (Nat.zero_le _) (Below.refl _ _)).output, ho.1, fun k hk hkg _ => ho.heap _ hk hkg⟩
          have HX8 : Hid (w8.heap[bx]? = some (.cells #[v0, v1, v2, v3, v4, v5] 49 (0, 0))) := (ho.heap _ (Array.getElem?_eq_some_iff.1 hx7').1 (by omega)).trans hx7'
          have HK78 : Hid (w8.heap[g7]? = some (.cells #[.int .i64 ok, .int .i64 oz] 25 (0, 0))) := (ho.heap _ (Array.getElem?_eq_some_iff.1 hk7').1 (by omega)).trans hk7'
          clear h5 ho g1 g2 hk7' hx7' q1
          try simp only [Act.put, List.setIfInBounds_toArray, List.set_cons_zero, List.set_cons_succ]
          refine wpH_tail (i := 11) (by decide) rfl (by kernel_rfl) (by rfl) ?_
          obtain ⟨ue, born, w9, w10, r1, r2, t1, t2, hfin⟩ := pair_run HM8.out H6.out ⟨ok, oz⟩ (by have h1 : (going S s).es.length ≤ S.es.length := (kept_sub S _).length_le; have := HFEW.out; unfold maxLen; omega)
          rw [HMV.out] at r1
          refine wp_entry (some 82) 61 (.tmp 76) (.tmp 77) rfl rfl rfl r1 rfl ?_
          have hgr := t1.grown
          have g1 := HG7.out
          have g2 := HBX.out
          refine ⟨⟨hgr.size, fun b hb => ?_⟩, ?_⟩
          · rcases (by simpa using hb : b = g7 ∨ b = bx) with rfl | rfl
            · exact hgr.block _ (Array.getElem?_eq_some_iff.1 HK78.out).1 (by simp; omega)
            · exact hgr.block _ (Array.getElem?_eq_some_iff.1 HX8.out).1 (by simp; omega)
          have HFIN := Lib.hid hfin
          have HTU10 := Lib.hid t2
          have HK79 : Hid (w9.heap[g7]? = some (.cells #[.int .i64 ok, .int .i64 oz] 25 (0, 0))) := (hgr.block _ (Array.getElem?_eq_some_iff.1 HK78.out).1 (by simp; omega)).trans HK78.out
          have HX9 : Hid (w9.heap[bx]? = some (.cells #[v0, v1, v2, v3, v4, v5] 49 (0, 0))) := (hgr.block _ (Array.getElem?_eq_some_iff.1 HX8.out).1 (by simp; omega)).trans HX8.out
          have HR2 := Lib.hid r2
          have HT1 := Lib.hid t1
          clear hgr g1 g2 hfin t1 t2 r1 r2
          try simp only [Act.put, List.setIfInBounds_toArray, List.set_cons_zero, List.set_cons_succ]
          refine wpH_tail (i := 12) (by decide) rfl (by kernel_rfl) (by rfl) ?_
          go_simp
          refine ⟨(pre_refl (preKp _) _), ?_⟩
          try simp only [Act.put, List.setIfInBounds_toArray, List.set_cons_zero, List.set_cons_succ]
          refine wpH_tail (i := 13) (by decide) rfl (by kernel_rfl) (by rfl) ?_
          refine wp_entryStore (none) 61 (.tmp 76) (.tmp 83) (.tmp 79) rfl rfl rfl rfl HR2.out rfl ?_
          have g1 := HG7.out
          have g2 := HBX.out
          have hgr := HTU10.out.grown
          refine ⟨⟨?_, fun b hb => ?_⟩, ?_⟩
          · have h1 := turned_size HT1.out
            have h2 := turned_size HTU10.out
            omega
          · rcases (by simpa using hb : b = g7 ∨ b = bx) with rfl | rfl
            · rw [HK79.out]
              exact (hgr.block _ (Array.getElem?_eq_some_iff.1 HK78.out).1 (by simp; omega)).trans HK78.out
            · rw [HX9.out]
              exact (hgr.block _ (Array.getElem?_eq_some_iff.1 HX8.out).1 (by simp; omega)).trans HX8.out
          have HROW10 : Hid (w10.heap[g]? = some (.cells #[.int .i64 S.all.e, .int .i64 S.all.m, .int .i64 S.own.e, .int .i64 S.own.m, .int .i64 ak, .int .i64 az, .map (some bm), .int .i64 t] 63 (0, 0))) := (hgr.block _ (Array.getElem?_eq_some_iff.1 HROW8.out).1 (by have := HL7.out.ne; simpa using this)).trans HROW8.out
          have HT10 : Hid (Tu g bm w w10) := HT8.out.step hgr (fun k hk => .inr (.inr (by cases hk; rfl)))
          clear g1 g2 hgr
          try simp only [Act.put, List.setIfInBounds_toArray, List.set_cons_zero, List.set_cons_succ]
          refine wpH_done (by kernel_rfl) ?_ _
          go_wp2_with fail
          go_ret
          refine ⟨by rw [HA.out]; rfl, LimAt.allowed HOK.out HFEW.out (congrArg Prod.fst HA.out) HROW10.out HFIN.out, HT10.out⟩
end Go.Proofs.Ytblnglkjpnpmbaa.Bk
