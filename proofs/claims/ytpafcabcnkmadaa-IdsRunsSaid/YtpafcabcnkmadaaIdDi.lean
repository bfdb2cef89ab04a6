/-
  The document's Fork.
-/
import Derived.Test.YtpafcabcnkmadaaIdDh
namespace Go.Proofs.Ytpafcabcnkmadaa.Id
open Go.RowKit
set_option linter.unusedVariables false
set_option linter.unusedSimpArgs false

section
variable {P : Program}
/-- 'append(s, x...)' as an operation: s the call's own, x whatever; the result lies where s lay, or in new memory. -/
theorem wp_append_where (w : World) {o : Oper} {a : Act} {K : Act → World → Prop} {Q : Exit → Act → World → Prop} (d : Option Tmp) (s x : Operand) (t : TypeId)
    (ho : o.op = .call { callee := .builtin .append, args := #[s, x], argTypes := #[t, t] })
    (base : Nat) (e : TypeId) (i : TypeInfo) (z : Value) (size bytes : Nat) (ht : P.underlying t = some (.slice e)) (hi : P.info? e = some i) (hz : i.zero = some z)
    (hsize : i.size = size) (hby : i.bytes = bytes) (hzs : z.cells.size = size) (hsz : 0 < size)
    (v : Value) (n : Nat) (xs : List Value) (hs : a.eval s = v) (hown : w.ownsRow base e size v n xs)
    (y : Value) (m : Nat) (ys : List Value) (hx : a.eval x = y) (hy : Rd w size y m ys) (h1 : ∀ u ∈ ys, u.oneCell' = true)
    (hbytes : (n + m) * bytes ≤ 140737488355328) (hb1 : 0 < bytes) (hbase : base ≤ w.heap.size) (hd : o.dst = d)
    (h : ∀ v' w', w'.ownsRow base e size v' (n + m) (xs ++ ys) → w.grownBy w' v.ownBlock → (∀ k ∈ blk v', k ∈ blk v ∨ w.heap.size ≤ k) → K (a.put d v') w') : o.wp P a w K Q := by
  have h63 : n + m ≤ maxLen := by
    have : n + m ≤ (n + m) * bytes := Nat.le_mul_of_pos_right _ hb1
    unfold maxLen; omega
  subst hd
  obtain ⟨h0, ao, cap, rfl, g1, g2, g3, g4⟩ := hy
  cases ao with
  | none =>
    have := g3 rfl
    subst this
    have hm : m = 0 := by omega
    subst hm
    have hl : ys = [] := List.eq_nil_of_length_eq_zero (by simpa using h0)
    subst hl
    have hrun := run_append_owned_none (P := P) (w := w) base t o.type e i size ht hi v n xs hown
    unfold Oper.wp
    simp [execOp, ho, resolve, invoke, builtin, hs, hx, hrun, Result.andThen]
    exact h v w (by simpa using hown) ⟨rfl, rfl, rfl, Nat.le_refl _, fun _ _ _ => rfl⟩ fun k hk => .inl hk
  | some ad =>
    obtain ⟨v', w', hr, h2, h3, h4⟩ := run_append_where (P := P) w base t o.type e i z size bytes ht hi hz hsize hby hzs hsz v n xs hown ad m cap ys h0 (g4 ad rfl) h1 h63 hbytes hbase
    unfold Oper.wp execOp
    simp only [ho, resolve, invoke, builtin, Sem.run_bind, Sem.run_pure, Result.andThen_ok, List.map_toArray, List.map_cons, List.map_nil, hs, hx, hr]
    exact h v' w' h2 h3 h4
end
theorem far_sym {u v : Value} (h : ∀ k ∈ blk u, k ∉ blk v) : ∀ k ∈ blk v, k ∉ blk u := fun k h1 h2 => h k h2 h1
theorem far_new {w : World} {base size n : Nat} {e : TypeId} {v : Value} {xs : List Value} (h : w.ownsRow base e size v n xs) : ∀ k ∈ blk v, k ∉ blk (.slice (some ⟨w.heap.size, 0, none⟩) 0 0) := fun k hk h2 => by
  have h3 := (own_blk h k hk).2
  have h4 : k = w.heap.size := List.mem_singleton.1 h2
  omega
theorem blk_own {v : Value} {k : Nat} (h : v.ownBlock = some k) : k ∈ blk v := by
  unfold Value.ownBlock at h
  split at h
  · injection h with h; subst h; exact List.mem_singleton.2 rfl
  · cases h
theorem far_grow {w w' : World} {base size n : Nat} {e : TypeId} {u v v' : Value} {xs : List Value} (h : w.ownsRow base e size u n xs) (hd : ∀ k ∈ blk u, k ∉ blk v) (hg : w.grownBy w' v.ownBlock) (hw : ∀ k ∈ blk v', k ∈ blk v ∨ w.heap.size ≤ k) :
    w'.ownsRow base e size u n xs ∧ ∀ k ∈ blk u, k ∉ blk v' := by
  refine ⟨own_keep h fun k hk => hg.block k (own_blk_lt h hk) fun e1 => hd k hk (blk_own e1.symm), fun k hk h2 => ?_⟩
  rcases hw k h2 with h3 | h3
  · exact hd k hk h3
  · have := own_blk_lt h hk; omega
theorem builtD6 (lo hi q : Int) (a b c : Option Addr) (n m k x y z : Nat) : Try.prog.built 75 [(0, .int .i64 lo), (1, .int .i64 hi), (2, .int .i64 q), (3, .slice a n x), (4, .slice b m y), (5, .slice c k z)] = some #[.int .i64 lo, .int .i64 hi, .int .i64 q, .slice a n x, .slice b m y, .slice c k z] := by kernel_rfl
theorem forked {w wc wn : World} {S : Al} {A1 A2 A3 : Option Addr} {n1 n2 n3 c1 c2 c3 : Nat} (hc : Gr w wc) (h1 : wc.ownsRow w.heap.size 3 1 (.slice A1 n1 c1) n1 (ints S.row)) (h2 : wc.ownsRow w.heap.size 3 1 (.slice A2 n2 c2) n2 (ints S.used)) (h3 : wc.ownsRow w.heap.size 54 2 (.slice A3 n3 c3) n3 (flatR S.rest))
    (e1 : n1 = S.row.length) (e2 : n2 = S.used.length) (e3 : n3 = S.rest.length) (hb : Gr wc wn) (hrow : wn.heap[wc.heap.size]? = some (.cells #[.int .i64 S.low, .int .i64 S.high, .int .i64 S.quiet, .slice A1 n1 c1, .slice A2 n2 c2, .slice A3 n3 c3] 75 (0, 0))) :
    w.heap.size ≤ wc.heap.size ∧ DQ wn wc.heap.size (.slice A1 n1 c1) (.slice A2 n2 c2) (.slice A3 n3 c3) S ∧ (∀ k ∈ Bd (.slice A1 n1 c1) (.slice A2 n2 c2) (.slice A3 n3 c3), w.heap.size ≤ k) ∧ Below w.heap.size w wn := by
  subst e1 e2 e3
  have hall : ∀ k ∈ Bd (.slice A1 S.row.length c1) (.slice A2 S.used.length c2) (.slice A3 S.rest.length c3), w.heap.size ≤ k ∧ k < wc.heap.size := fun k hk => by
    simp only [Bd, List.mem_append] at hk
    rcases hk with hk | hk | hk
    · exact own_blk h1 k hk
    · exact own_blk h2 k hk
    · exact own_blk h3 k hk
  exact ⟨Below.size hc, ⟨⟨hrow, Rd.below (own_rd h1) hb, Rd.below (own_rd h2) hb, Rd.below (own_rd h3) hb⟩, fun k hk => ⟨by have := (hall k hk).2; omega, Nat.lt_of_lt_of_le (hall k hk).2 (Below.size hb)⟩⟩, fun k hk => (hall k hk).1, Gr.trans hc hb⟩
set_option maxRecDepth 20000 in
set_option maxHeartbeats 16000000 in
theorem dfork_any (g : Nat) {rv uv ev : Value} {S : Al} (w : World) (h : DQ w g rv uv ev S) (hlr : S.row.length ≤ 65534) (hlu : S.used.length ≤ 65534) (hle : S.rest.length ≤ 65534) :
    Calls Try.prog 28 #[.pointer (some ⟨g, 0, none⟩)] w fun e w' => ∃ g' rv' uv' ev', e = .returned (.pointer (some ⟨g', 0, none⟩)) ∧ w.heap.size ≤ g' ∧ DQ w' g' rv' uv' ev' S ∧ (∀ k ∈ Bd rv' uv' ev', w.heap.size ≤ k) ∧ Below w.heap.size w w' := by
  obtain ⟨i0, hi0, hz0, hz1, hz2⟩ := info_parts infoI
  obtain ⟨i1, hi1, hy0, hy1, hy2⟩ := info_parts infoR
  have HD := Lib.hid h
  obtain ⟨ra, rc, erv, _, _⟩ := h.doc.r.shape
  obtain ⟨ua, uc, euv, _, _⟩ := h.doc.u.shape
  obtain ⟨ea, ec, eev, _, _⟩ := h.doc.e.shape
  obtain ⟨a1, ha1⟩ : ∃ a1, a1 = S.row.length := ⟨_, rfl⟩
  obtain ⟨a2, ha2⟩ : ∃ a2, a2 = S.used.length := ⟨_, rfl⟩
  obtain ⟨a3, ha3⟩ : ∃ a3, a3 = S.rest.length := ⟨_, rfl⟩
  have hr := h.doc.r
  have hu := h.doc.u
  have he := h.doc.e
  unfold IR at hr hu
  unfold RR at he
  rw [erv, ← ha1] at hr
  rw [euv, ← ha2] at hu
  rw [eev, ← ha3] at he
  rw [← ha1] at erv hlr
  rw [← ha2] at euv hlu
  rw [← ha3] at eev hle
  have HR := Lib.hid hr
  have HU := Lib.hid hu
  have HE := Lib.hid he
  have HX := Lib.hid (And.intro erv (And.intro euv eev))
  have HA := Lib.hid (And.intro ha1 (And.intro ha2 ha3))
  have HONR : Hid (∀ u ∈ ints S.row, u.oneCell' = true) := ints_cell _
  have HONU : Hid (∀ u ∈ ints S.used, u.oneCell' = true) := ints_cell _
  have HONE : Hid (∀ u ∈ flatR S.rest, u.oneCell' = true) := flatR_cell _
  have HB1 : Hid ((0 + a1) * 8 ≤ 140737488355328) := by show _ ≤ _; omega
  have HB2 : Hid ((0 + a2) * 8 ≤ 140737488355328) := by show _ ≤ _; omega
  have HB3 : Hid ((0 + a3) * 16 ≤ 140737488355328) := by show _ ≤ _; omega
  clear h hr hu he erv euv eev ha1 ha2 ha3
  go_enter Try.func28, Try.ntmps28
  go_upto_region 1 with fail
  have HC : Hid (Gr w w.drew) := Gr.drew w
  refine wp_region_G 33 (Below (w.heap.size)) (by kernel_rfl) ?_
  generalize w.drew = wc at HC ⊢
  -- 0: slot 3
  refine wpG_take (preBelow (w.heap.size)) (i := 0) (v := ?_) (by kernel_rfl) (some 3) (by kernel_rfl) rfl (by kernel_rfl) (by kernel_rfl) (by kernel_rfl) (fun _ _ _ h => h) (by rfl) (fun w' hw' => ?_) rfl ?_
  rotate_left
  · try (have hxx := cells6 (HD.out.gr (Below.trans HC.out hw')).doc.row; rw [HX.out.1, HX.out.2.1, HX.out.2.2] at hxx; obtain ⟨k0, k1, k2, k3, k4, k5⟩ := hxx)
    try have hbu := builtD6 S.low S.high S.quiet A1 A2 A3 (0 + a1) (0 + a2) (0 + a3) C1 C2 C3
    go_simp
    with_reducible rfl
  simp only [Act.put, List.setIfInBounds_toArray, List.set_cons_zero, List.set_cons_succ]
  -- 1: slot 4
  refine wpG_take (preBelow (w.heap.size)) (i := 1) (v := ?_) (by kernel_rfl) (some 4) (by kernel_rfl) rfl (by kernel_rfl) (by kernel_rfl) (by kernel_rfl) (fun _ _ _ h => h) (by rfl) (fun w' hw' => ?_) rfl ?_
  rotate_left
  · try (have hxx := cells6 (HD.out.gr (Below.trans HC.out hw')).doc.row; rw [HX.out.1, HX.out.2.1, HX.out.2.2] at hxx; obtain ⟨k0, k1, k2, k3, k4, k5⟩ := hxx)
    try have hbu := builtD6 S.low S.high S.quiet A1 A2 A3 (0 + a1) (0 + a2) (0 + a3) C1 C2 C3
    go_simp
    with_reducible rfl
  simp only [Act.put, List.setIfInBounds_toArray, List.set_cons_zero, List.set_cons_succ]
  -- 2: slot 5
  refine wpG_take (preBelow (w.heap.size)) (i := 2) (v := ?_) (by kernel_rfl) (some 5) (by kernel_rfl) rfl (by kernel_rfl) (by kernel_rfl) (by kernel_rfl) (fun _ _ _ h => h) (by rfl) (fun w' hw' => ?_) rfl ?_
  rotate_left
  · try (have hxx := cells6 (HD.out.gr (Below.trans HC.out hw')).doc.row; rw [HX.out.1, HX.out.2.1, HX.out.2.2] at hxx; obtain ⟨k0, k1, k2, k3, k4, k5⟩ := hxx)
    try have hbu := builtD6 S.low S.high S.quiet A1 A2 A3 (0 + a1) (0 + a2) (0 + a3) C1 C2 C3
    go_simp
    with_reducible rfl
  simp only [Act.put, List.setIfInBounds_toArray, List.set_cons_zero, List.set_cons_succ]
  -- 3: slot 6
  refine wpG_take (preBelow (w.heap.size)) (i := 3) (v := ?_) (by kernel_rfl) (some 6) (by kernel_rfl) rfl (by kernel_rfl) (by kernel_rfl) (by kernel_rfl) (fun _ _ _ h => h) (by rfl) (fun w' hw' => ?_) rfl ?_
  rotate_left
  · try (have hxx := cells6 (HD.out.gr (Below.trans HC.out hw')).doc.row; rw [HX.out.1, HX.out.2.1, HX.out.2.2] at hxx; obtain ⟨k0, k1, k2, k3, k4, k5⟩ := hxx)
    try have hbu := builtD6 S.low S.high S.quiet A1 A2 A3 (0 + a1) (0 + a2) (0 + a3) C1 C2 C3
    go_simp
    with_reducible rfl
  simp only [Act.put, List.setIfInBounds_toArray, List.set_cons_zero, List.set_cons_succ]
  -- 4: slot 7
  refine wpG_take (preBelow (w.heap.size)) (i := 4) (v := ?_) (by kernel_rfl) (some 7) (by kernel_rfl) rfl (by kernel_rfl) (by kernel_rfl) (by kernel_rfl) (fun _ _ _ h => h) (by rfl) (fun w' hw' => ?_) rfl ?_
  rotate_left
  · try (have hxx := cells6 (HD.out.gr (Below.trans HC.out hw')).doc.row; rw [HX.out.1, HX.out.2.1, HX.out.2.2] at hxx; obtain ⟨k0, k1, k2, k3, k4, k5⟩ := hxx)
    try have hbu := builtD6 S.low S.high S.quiet A1 A2 A3 (0 + a1) (0 + a2) (0 + a3) C1 C2 C3
    go_simp
    with_reducible rfl
  simp only [Act.put, List.setIfInBounds_toArray, List.set_cons_zero, List.set_cons_succ]
  -- 5: slot 8
  refine wpG_take (preBelow (w.heap.size)) (i := 5) (v := ?_) (by kernel_rfl) (some 8) (by kernel_rfl) rfl (by kernel_rfl) (by kernel_rfl) (by kernel_rfl) (fun _ _ _ h => h) (by rfl) (fun w' hw' => ?_) rfl ?_
  rotate_left
  · try (have hxx := cells6 (HD.out.gr (Below.trans HC.out hw')).doc.row; rw [HX.out.1, HX.out.2.1, HX.out.2.2] at hxx; obtain ⟨k0, k1, k2, k3, k4, k5⟩ := hxx)
    try have hbu := builtD6 S.low S.high S.quiet A1 A2 A3 (0 + a1) (0 + a2) (0 + a3) C1 C2 C3
    go_simp
    with_reducible rfl
  simp only [Act.put, List.setIfInBounds_toArray, List.set_cons_zero, List.set_cons_succ]
  -- 6: slot 9
  refine wpG_take (preBelow (w.heap.size)) (i := 6) (v := ?_) (by kernel_rfl) (some 9) (by kernel_rfl) rfl (by kernel_rfl) (by kernel_rfl) (by kernel_rfl) (fun _ _ _ h => h) (by rfl) (fun w' hw' => ?_) rfl ?_
  rotate_left
  · try (have hxx := cells6 (HD.out.gr (Below.trans HC.out hw')).doc.row; rw [HX.out.1, HX.out.2.1, HX.out.2.2] at hxx; obtain ⟨k0, k1, k2, k3, k4, k5⟩ := hxx)
    try have hbu := builtD6 S.low S.high S.quiet A1 A2 A3 (0 + a1) (0 + a2) (0 + a3) C1 C2 C3
    go_simp
    with_reducible rfl
  simp only [Act.put, List.setIfInBounds_toArray, List.set_cons_zero, List.set_cons_succ]
  -- 7: slot 10
  refine wpG_take (preBelow (w.heap.size)) (i := 7) (v := ?_) (by kernel_rfl) (some 10) (by kernel_rfl) rfl (by kernel_rfl) (by kernel_rfl) (by kernel_rfl) (fun _ _ _ h => h) (by rfl) (fun w' hw' => ?_) rfl ?_
  rotate_left
  · try (have hxx := cells6 (HD.out.gr (Below.trans HC.out hw')).doc.row; rw [HX.out.1, HX.out.2.1, HX.out.2.2] at hxx; obtain ⟨k0, k1, k2, k3, k4, k5⟩ := hxx)
    try have hbu := builtD6 S.low S.high S.quiet A1 A2 A3 (0 + a1) (0 + a2) (0 + a3) C1 C2 C3
    go_simp
    with_reducible rfl
  simp only [Act.put, List.setIfInBounds_toArray, List.set_cons_zero, List.set_cons_succ]
  -- 8: slot 11
  refine wpG_take (preBelow (w.heap.size)) (i := 8) (v := ?_) (by kernel_rfl) (some 11) (by kernel_rfl) rfl (by kernel_rfl) (by kernel_rfl) (by kernel_rfl) (fun _ _ _ h => h) (by rfl) (fun w' hw' => ?_) rfl ?_
  rotate_left
  · try (have hxx := cells6 (HD.out.gr (Below.trans HC.out hw')).doc.row; rw [HX.out.1, HX.out.2.1, HX.out.2.2] at hxx; obtain ⟨k0, k1, k2, k3, k4, k5⟩ := hxx)
    try have hbu := builtD6 S.low S.high S.quiet A1 A2 A3 (0 + a1) (0 + a2) (0 + a3) C1 C2 C3
    go_simp
    with_reducible rfl
  simp only [Act.put, List.setIfInBounds_toArray, List.set_cons_zero, List.set_cons_succ]
  -- 9: slot 12
  refine wpG_take (preBelow (w.heap.size)) (i := 9) (v := ?_) (by kernel_rfl) (some 12) (by kernel_rfl) rfl (by kernel_rfl) (by kernel_rfl) (by kernel_rfl) (fun _ _ _ h => h) (by rfl) (fun w' hw' => ?_) rfl ?_
  rotate_left
  · try (have hxx := cells6 (HD.out.gr (Below.trans HC.out hw')).doc.row; rw [HX.out.1, HX.out.2.1, HX.out.2.2] at hxx; obtain ⟨k0, k1, k2, k3, k4, k5⟩ := hxx)
    try have hbu := builtD6 S.low S.high S.quiet A1 A2 A3 (0 + a1) (0 + a2) (0 + a3) C1 C2 C3
    go_simp
    with_reducible rfl
  simp only [Act.put, List.setIfInBounds_toArray, List.set_cons_zero, List.set_cons_succ]
  -- 10: slot 13
  refine wpG_take (preBelow (w.heap.size)) (i := 10) (v := ?_) (by kernel_rfl) (some 13) (by kernel_rfl) rfl (by kernel_rfl) (by kernel_rfl) (by kernel_rfl) (fun _ _ _ h => h) (by rfl) (fun w' hw' => ?_) rfl ?_
  rotate_left
  · try (have hxx := cells6 (HD.out.gr (Below.trans HC.out hw')).doc.row; rw [HX.out.1, HX.out.2.1, HX.out.2.2] at hxx; obtain ⟨k0, k1, k2, k3, k4, k5⟩ := hxx)
    try have hbu := builtD6 S.low S.high S.quiet A1 A2 A3 (0 + a1) (0 + a2) (0 + a3) C1 C2 C3
    go_simp
    with_reducible rfl
  simp only [Act.put, List.setIfInBounds_toArray, List.set_cons_zero, List.set_cons_succ]
  -- 11: slot 14
  refine wpG_take (preBelow (w.heap.size)) (i := 11) (v := ?_) (by kernel_rfl) (some 14) (by kernel_rfl) rfl (by kernel_rfl) (by kernel_rfl) (by kernel_rfl) (fun _ _ _ h => h) (by rfl) (fun w' hw' => ?_) rfl ?_
  rotate_left
  · try (have hxx := cells6 (HD.out.gr (Below.trans HC.out hw')).doc.row; rw [HX.out.1, HX.out.2.1, HX.out.2.2] at hxx; obtain ⟨k0, k1, k2, k3, k4, k5⟩ := hxx)
    try have hbu := builtD6 S.low S.high S.quiet A1 A2 A3 (0 + a1) (0 + a2) (0 + a3) C1 C2 C3
    go_simp
    with_reducible rfl
  simp only [Act.put, List.setIfInBounds_toArray, List.set_cons_zero, List.set_cons_succ]
  -- 13: slot 16
  refine wpG_take (preBelow (w.heap.size)) (i := 13) (v := ?_) (by kernel_rfl) (some 16) (by kernel_rfl) rfl (by kernel_rfl) (by kernel_rfl) (by kernel_rfl) (fun _ _ _ h => h) (by rfl) (fun w' hw' => ?_) rfl ?_
  rotate_left
  · try (have hxx := cells6 (HD.out.gr (Below.trans HC.out hw')).doc.row; rw [HX.out.1, HX.out.2.1, HX.out.2.2] at hxx; obtain ⟨k0, k1, k2, k3, k4, k5⟩ := hxx)
    try have hbu := builtD6 S.low S.high S.quiet A1 A2 A3 (0 + a1) (0 + a2) (0 + a3) C1 C2 C3
    go_simp
    with_reducible rfl
  simp only [Act.put, List.setIfInBounds_toArray, List.set_cons_zero, List.set_cons_succ]
  -- 14: slot 17
  refine wpG_take (preBelow (w.heap.size)) (i := 14) (v := ?_) (by kernel_rfl) (some 17) (by kernel_rfl) rfl (by kernel_rfl) (by kernel_rfl) (by kernel_rfl) (fun _ _ _ h => h) (by rfl) (fun w' hw' => ?_) rfl ?_
  rotate_left
  · try (have hxx := cells6 (HD.out.gr (Below.trans HC.out hw')).doc.row; rw [HX.out.1, HX.out.2.1, HX.out.2.2] at hxx; obtain ⟨k0, k1, k2, k3, k4, k5⟩ := hxx)
    try have hbu := builtD6 S.low S.high S.quiet A1 A2 A3 (0 + a1) (0 + a2) (0 + a3) C1 C2 C3
    go_simp
    with_reducible rfl
  simp only [Act.put, List.setIfInBounds_toArray, List.set_cons_zero, List.set_cons_succ]
  -- 15: slot 18
  refine wpG_take (preBelow (w.heap.size)) (i := 15) (v := ?_) (by kernel_rfl) (some 18) (by kernel_rfl) rfl (by kernel_rfl) (by kernel_rfl) (by kernel_rfl) (fun _ _ _ h => h) (by rfl) (fun w' hw' => ?_) rfl ?_
  rotate_left
  · try (have hxx := cells6 (HD.out.gr (Below.trans HC.out hw')).doc.row; rw [HX.out.1, HX.out.2.1, HX.out.2.2] at hxx; obtain ⟨k0, k1, k2, k3, k4, k5⟩ := hxx)
    try have hbu := builtD6 S.low S.high S.quiet A1 A2 A3 (0 + a1) (0 + a2) (0 + a3) C1 C2 C3
    go_simp
    with_reducible rfl
  simp only [Act.put, List.setIfInBounds_toArray, List.set_cons_zero, List.set_cons_succ]
  -- 16: slot 19
  refine wpG_take (preBelow (w.heap.size)) (i := 16) (v := ?_) (by kernel_rfl) (some 19) (by kernel_rfl) rfl (by kernel_rfl) (by kernel_rfl) (by kernel_rfl) (fun _ _ _ h => h) (by rfl) (fun w' hw' => ?_) rfl ?_
  rotate_left
  · try (have hxx := cells6 (HD.out.gr (Below.trans HC.out hw')).doc.row; rw [HX.out.1, HX.out.2.1, HX.out.2.2] at hxx; obtain ⟨k0, k1, k2, k3, k4, k5⟩ := hxx)
    try have hbu := builtD6 S.low S.high S.quiet A1 A2 A3 (0 + a1) (0 + a2) (0 + a3) C1 C2 C3
    go_simp
    with_reducible rfl
  simp only [Act.put, List.setIfInBounds_toArray, List.set_cons_zero, List.set_cons_succ]
  -- 19: slot 22
  refine wpG_take (preBelow (w.heap.size)) (i := 19) (v := ?_) (by kernel_rfl) (some 22) (by kernel_rfl) rfl (by kernel_rfl) (by kernel_rfl) (by kernel_rfl) (fun _ _ _ h => h) (by rfl) (fun w' hw' => ?_) rfl ?_
  rotate_left
  · try (have hxx := cells6 (HD.out.gr (Below.trans HC.out hw')).doc.row; rw [HX.out.1, HX.out.2.1, HX.out.2.2] at hxx; obtain ⟨k0, k1, k2, k3, k4, k5⟩ := hxx)
    try have hbu := builtD6 S.low S.high S.quiet A1 A2 A3 (0 + a1) (0 + a2) (0 + a3) C1 C2 C3
    go_simp
    with_reducible rfl
  simp only [Act.put, List.setIfInBounds_toArray, List.set_cons_zero, List.set_cons_succ]
  -- 20: slot 23
  refine wpG_take (preBelow (w.heap.size)) (i := 20) (v := ?_) (by kernel_rfl) (some 23) (by kernel_rfl) rfl (by kernel_rfl) (by kernel_rfl) (by kernel_rfl) (fun _ _ _ h => h) (by rfl) (fun w' hw' => ?_) rfl ?_
  rotate_left
  · try (have hxx := cells6 (HD.out.gr (Below.trans HC.out hw')).doc.row; rw [HX.out.1, HX.out.2.1, HX.out.2.2] at hxx; obtain ⟨k0, k1, k2, k3, k4, k5⟩ := hxx)
    try have hbu := builtD6 S.low S.high S.quiet A1 A2 A3 (0 + a1) (0 + a2) (0 + a3) C1 C2 C3
    go_simp
    with_reducible rfl
  simp only [Act.put, List.setIfInBounds_toArray, List.set_cons_zero, List.set_cons_succ]
  -- 21: slot 24
  refine wpG_take (preBelow (w.heap.size)) (i := 21) (v := ?_) (by kernel_rfl) (some 24) (by kernel_rfl) rfl (by kernel_rfl) (by kernel_rfl) (by kernel_rfl) (fun _ _ _ h => h) (by rfl) (fun w' hw' => ?_) rfl ?_
  rotate_left
  · try (have hxx := cells6 (HD.out.gr (Below.trans HC.out hw')).doc.row; rw [HX.out.1, HX.out.2.1, HX.out.2.2] at hxx; obtain ⟨k0, k1, k2, k3, k4, k5⟩ := hxx)
    try have hbu := builtD6 S.low S.high S.quiet A1 A2 A3 (0 + a1) (0 + a2) (0 + a3) C1 C2 C3
    go_simp
    with_reducible rfl
  simp only [Act.put, List.setIfInBounds_toArray, List.set_cons_zero, List.set_cons_succ]
  -- 22: slot 25
  refine wpG_take (preBelow (w.heap.size)) (i := 22) (v := ?_) (by kernel_rfl) (some 25) (by kernel_rfl) rfl (by kernel_rfl) (by kernel_rfl) (by kernel_rfl) (fun _ _ _ h => h) (by rfl) (fun w' hw' => ?_) rfl ?_
  rotate_left
  · try (have hxx := cells6 (HD.out.gr (Below.trans HC.out hw')).doc.row; rw [HX.out.1, HX.out.2.1, HX.out.2.2] at hxx; obtain ⟨k0, k1, k2, k3, k4, k5⟩ := hxx)
    try have hbu := builtD6 S.low S.high S.quiet A1 A2 A3 (0 + a1) (0 + a2) (0 + a3) C1 C2 C3
    go_simp
    with_reducible rfl
  simp only [Act.put, List.setIfInBounds_toArray, List.set_cons_zero, List.set_cons_succ]
  -- 25: slot 28
  refine wpG_take (preBelow (w.heap.size)) (i := 25) (v := ?_) (by kernel_rfl) (some 28) (by kernel_rfl) rfl (by kernel_rfl) (by kernel_rfl) (by kernel_rfl) (fun _ _ _ h => h) (by rfl) (fun w' hw' => ?_) rfl ?_
  rotate_left
  · try (have hxx := cells6 (HD.out.gr (Below.trans HC.out hw')).doc.row; rw [HX.out.1, HX.out.2.1, HX.out.2.2] at hxx; obtain ⟨k0, k1, k2, k3, k4, k5⟩ := hxx)
    try have hbu := builtD6 S.low S.high S.quiet A1 A2 A3 (0 + a1) (0 + a2) (0 + a3) C1 C2 C3
    go_simp
    with_reducible rfl
  simp only [Act.put, List.setIfInBounds_toArray, List.set_cons_zero, List.set_cons_succ]
  -- 26: slot 29
  refine wpG_take (preBelow (w.heap.size)) (i := 26) (v := ?_) (by kernel_rfl) (some 29) (by kernel_rfl) rfl (by kernel_rfl) (by kernel_rfl) (by kernel_rfl) (fun _ _ _ h => h) (by rfl) (fun w' hw' => ?_) rfl ?_
  rotate_left
  · try (have hxx := cells6 (HD.out.gr (Below.trans HC.out hw')).doc.row; rw [HX.out.1, HX.out.2.1, HX.out.2.2] at hxx; obtain ⟨k0, k1, k2, k3, k4, k5⟩ := hxx)
    try have hbu := builtD6 S.low S.high S.quiet A1 A2 A3 (0 + a1) (0 + a2) (0 + a3) C1 C2 C3
    go_simp
    with_reducible rfl
  simp only [Act.put, List.setIfInBounds_toArray, List.set_cons_zero, List.set_cons_succ]
  -- 27: slot 30
  refine wpG_take (preBelow (w.heap.size)) (i := 27) (v := ?_) (by kernel_rfl) (some 30) (by kernel_rfl) rfl (by kernel_rfl) (by kernel_rfl) (by kernel_rfl) (fun _ _ _ h => h) (by rfl) (fun w' hw' => ?_) rfl ?_
  rotate_left
  · try (have hxx := cells6 (HD.out.gr (Below.trans HC.out hw')).doc.row; rw [HX.out.1, HX.out.2.1, HX.out.2.2] at hxx; obtain ⟨k0, k1, k2, k3, k4, k5⟩ := hxx)
    try have hbu := builtD6 S.low S.high S.quiet A1 A2 A3 (0 + a1) (0 + a2) (0 + a3) C1 C2 C3
    go_simp
    with_reducible rfl
  simp only [Act.put, List.setIfInBounds_toArray, List.set_cons_zero, List.set_cons_succ]
  -- 28: slot 31
  refine wpG_take (preBelow (w.heap.size)) (i := 28) (v := ?_) (by kernel_rfl) (some 31) (by kernel_rfl) rfl (by kernel_rfl) (by kernel_rfl) (by kernel_rfl) (fun _ _ _ h => h) (by rfl) (fun w' hw' => ?_) rfl ?_
  rotate_left
  · try (have hxx := cells6 (HD.out.gr (Below.trans HC.out hw')).doc.row; rw [HX.out.1, HX.out.2.1, HX.out.2.2] at hxx; obtain ⟨k0, k1, k2, k3, k4, k5⟩ := hxx)
    try have hbu := builtD6 S.low S.high S.quiet A1 A2 A3 (0 + a1) (0 + a2) (0 + a3) C1 C2 C3
    go_simp
    with_reducible rfl
  simp only [Act.put, List.setIfInBounds_toArray, List.set_cons_zero, List.set_cons_succ]
  refine wpG_three (i := 12) (j := 18) (k := 24) rfl rfl rfl (by kernel_rfl) (by rfl) (by rfl) (by rfl) ?_ ?_ ?_
  · go_simp
    have hb : Gr wc (wc.alloc (.cells #[] 3)) := (Below.refl _ _).alloc (Nat.le_refl _) _
    refine ⟨hb.mono (Below.size HC.out), ?_⟩
    have n1 := Lib.hid (ownsRow_mono (own_new wc [] 3 0 1 rfl (Nat.zero_le _)) (Below.size HC.out))
    try have p2 := Lib.hid (far_new HO2.out)
    try have n2 := Lib.hid (ownsRow_below HO2.out hb)
    try have p3 := Lib.hid (far_new HO3.out)
    try have n3 := Lib.hid (ownsRow_below HO3.out hb)
    have nc := Lib.hid (Gr.trans HC.out hb)
    generalize wc.alloc (.cells #[] 3) = wn at *
    clear HC hb
    have HC := nc
    clear nc
    have HO1 := n1
    clear n1
    try (clear HO2; have HO2 := n2; clear n2)
    try (have HD12 := Lib.hid (far_sym p2.out); clear p2)
    try (clear HO3; have HO3 := n3; clear n3)
    try (have HD13 := Lib.hid (far_sym p3.out); clear p3)
    obtain ⟨wc, hwc⟩ : ∃ x, x = wn := ⟨_, rfl⟩
    subst hwc
    try simp only [Act.put, List.setIfInBounds_toArray, List.set_cons_zero, List.set_cons_succ]
    refine wpG_three (i := 17) (j := 18) (k := 24) rfl rfl rfl (by kernel_rfl) (by rfl) (by rfl) (by rfl) ?_ ?_ ?_
    · refine wp_append_where _ (some 20) (.tmp 15) (.tmp 19) 41 rfl w.heap.size 3 i0 _ 1 8 Try.underlying41 hi0 hz0 hz1 hz2 rfl (by decide) _ _ _ rfl HO1.out _ a1 _ rfl (Rd.below HR.out HC.out) HONR.out HB1.out (by decide) (Below.size HC.out) rfl ?_
      intro v' wn ho hg hw
      have hb := grown_below HO1.out (Below.size HC.out) hg
      refine ⟨hb, ?_⟩
      obtain ⟨A1, C1, rfl, _, _⟩ := (own_rd ho).shape
      try (have q := far_grow HO2.out (far_sym HD12.out) hg hw; have n2 := Lib.hid q.1; have p2 := Lib.hid q.2; clear q)
      try (have q := far_grow HO3.out (far_sym HD13.out) hg hw; have n3 := Lib.hid q.1; have p3 := Lib.hid q.2; clear q)
      have nc : Hid (Gr w wn) := Below.trans HC.out hb
      clear HC HO1 hg hw hb
      have HC := nc
      have HO1 := Lib.hid ho
      clear nc ho
      try (clear HO2 HD12; have HO2 := n2; clear n2)
      try (have HD12 := Lib.hid (far_sym p2.out); clear p2)
      try (clear HO3 HD13; have HO3 := n3; clear n3)
      try (have HD13 := Lib.hid (far_sym p3.out); clear p3)
      obtain ⟨wc, hwc⟩ : ∃ x, x = wn := ⟨_, rfl⟩
      subst hwc
      try simp only [Act.put, List.setIfInBounds_toArray, List.set_cons_zero, List.set_cons_succ]
      refine wpG_two (i := 18) (j := 24) rfl rfl (by kernel_rfl) (by rfl) (by rfl) ?_ ?_
      · go_simp
        have hb : Gr wc (wc.alloc (.cells #[] 3)) := (Below.refl _ _).alloc (Nat.le_refl _) _
        refine ⟨hb.mono (Below.size HC.out), ?_⟩
        have n2 := Lib.hid (ownsRow_mono (own_new wc [] 3 0 1 rfl (Nat.zero_le _)) (Below.size HC.out))
        try have p1 := Lib.hid (far_new HO1.out)
        try have n1 := Lib.hid (ownsRow_below HO1.out hb)
        try have p3 := Lib.hid (far_new HO3.out)
        try have n3 := Lib.hid (ownsRow_below HO3.out hb)
        have nc := Lib.hid (Gr.trans HC.out hb)
        generalize wc.alloc (.cells #[] 3) = wn at *
        clear HC hb
        have HC := nc
        clear nc
        have HO2 := n2
        clear n2
        try (clear HO1; have HO1 := n1; clear n1)
        try (have HD12 := p1; clear p1)
        try (clear HO3; have HO3 := n3; clear n3)
        try (have HD23 := Lib.hid (far_sym p3.out); clear p3)
        obtain ⟨wc, hwc⟩ : ∃ x, x = wn := ⟨_, rfl⟩
        subst hwc
        try simp only [Act.put, List.setIfInBounds_toArray, List.set_cons_zero, List.set_cons_succ]
        refine wpG_two (i := 23) (j := 24) rfl rfl (by kernel_rfl) (by rfl) (by rfl) ?_ ?_
        · refine wp_append_where _ (some 26) (.tmp 21) (.tmp 25) 41 rfl w.heap.size 3 i0 _ 1 8 Try.underlying41 hi0 hz0 hz1 hz2 rfl (by decide) _ _ _ rfl HO2.out _ a2 _ rfl (Rd.below HU.out HC.out) HONU.out HB2.out (by decide) (Below.size HC.out) rfl ?_
          intro v' wn ho hg hw
          have hb := grown_below HO2.out (Below.size HC.out) hg
          refine ⟨hb, ?_⟩
          obtain ⟨A2, C2, rfl, _, _⟩ := (own_rd ho).shape
          try (have q := far_grow HO1.out HD12.out hg hw; have n1 := Lib.hid q.1; have p1 := Lib.hid q.2; clear q)
          try (have q := far_grow HO3.out (far_sym HD23.out) hg hw; have n3 := Lib.hid q.1; have p3 := Lib.hid q.2; clear q)
          have nc : Hid (Gr w wn) := Below.trans HC.out hb
          clear HC HO2 hg hw hb
          have HC := nc
          have HO2 := Lib.hid ho
          clear nc ho
          try (clear HO1 HD12; have HO1 := n1; clear n1)
          try (have HD12 := p1; clear p1)
          try (clear HO3 HD23; have HO3 := n3; clear n3)
          try (have HD23 := Lib.hid (far_sym p3.out); clear p3)
          obtain ⟨wc, hwc⟩ : ∃ x, x = wn := ⟨_, rfl⟩
          subst hwc
          try simp only [Act.put, List.setIfInBounds_toArray, List.set_cons_zero, List.set_cons_succ]
          refine wpG_one (i := 24) rfl (by kernel_rfl) (by rfl) ?_
          go_simp
          have hb : Gr wc (wc.alloc (.cells #[] 54)) := (Below.refl _ _).alloc (Nat.le_refl _) _
          refine ⟨hb.mono (Below.size HC.out), ?_⟩
          have n3 := Lib.hid (ownsRow_mono (own_new wc [] 54 0 2 rfl (Nat.zero_le _)) (Below.size HC.out))
          try have p1 := Lib.hid (far_new HO1.out)
          try have n1 := Lib.hid (ownsRow_below HO1.out hb)
          try have p2 := Lib.hid (far_new HO2.out)
          try have n2 := Lib.hid (ownsRow_below HO2.out hb)
          have nc := Lib.hid (Gr.trans HC.out hb)
          generalize wc.alloc (.cells #[] 54) = wn at *
          clear HC hb
          have HC := nc
          clear nc
          have HO3 := n3
          clear n3
          try (clear HO1; have HO1 := n1; clear n1)
          try (have HD13 := p1; clear p1)
          try (clear HO2; have HO2 := n2; clear n2)
          try (have HD23 := p2; clear p2)
          obtain ⟨wc, hwc⟩ : ∃ x, x = wn := ⟨_, rfl⟩
          subst hwc
          try simp only [Act.put, List.setIfInBounds_toArray, List.set_cons_zero, List.set_cons_succ]
          refine wpG_one (i := 29) rfl (by kernel_rfl) (by rfl) ?_
          refine wp_append_where _ (some 32) (.tmp 27) (.tmp 31) 51 rfl w.heap.size 54 i1 _ 2 16 Try.underlying51 hi1 hy0 hy1 hy2 rfl (by decide) _ _ _ rfl HO3.out _ a3 _ rfl (Rd.below HE.out HC.out) HONE.out HB3.out (by decide) (Below.size HC.out) rfl ?_
          intro v' wn ho hg hw
          have hb := grown_below HO3.out (Below.size HC.out) hg
          refine ⟨hb, ?_⟩
          obtain ⟨A3, C3, rfl, _, _⟩ := (own_rd ho).shape
          try (have q := far_grow HO1.out HD13.out hg hw; have n1 := Lib.hid q.1; have p1 := Lib.hid q.2; clear q)
          try (have q := far_grow HO2.out HD23.out hg hw; have n2 := Lib.hid q.1; have p2 := Lib.hid q.2; clear q)
          have nc : Hid (Gr w wn) := Below.trans HC.out hb
          clear HC HO3 hg hw hb
          have HC := nc
          have HO3 := Lib.hid ho
          clear nc ho
          try (clear HO1 HD13; have HO1 := n1; clear n1)
          try (have HD13 := p1; clear p1)
          try (clear HO2 HD23; have HO2 := n2; clear n2)
          try (have HD23 := p2; clear p2)
          obtain ⟨wc, hwc⟩ : ∃ x, x = wn := ⟨_, rfl⟩
          subst hwc
          try simp only [Act.put, List.setIfInBounds_toArray, List.set_cons_zero, List.set_cons_succ]
          -- 30: slot 33
          refine wpG_take (preBelow (w.heap.size)) (i := 30) (v := ?_) (by kernel_rfl) (some 33) (by kernel_rfl) rfl (by kernel_rfl) (by kernel_rfl) (by kernel_rfl) (fun _ _ _ h => h) (by rfl) (fun w' hw' => ?_) rfl ?_
          rotate_left
          · try (have hxx := cells6 (HD.out.gr (Below.trans HC.out hw')).doc.row; rw [HX.out.1, HX.out.2.1, HX.out.2.2] at hxx; obtain ⟨k0, k1, k2, k3, k4, k5⟩ := hxx)
            try have hbu := builtD6 S.low S.high S.quiet A1 A2 A3 (0 + a1) (0 + a2) (0 + a3) C1 C2 C3
            go_simp
            with_reducible rfl
          simp only [Act.put, List.setIfInBounds_toArray, List.set_cons_zero, List.set_cons_succ]
          refine wpG_one (i := 31) rfl (by kernel_rfl) (by rfl) ?_
          go_simp
          have hb : Gr wc (wc.alloc (.cells #[.int .i64 S.low, .int .i64 S.high, .int .i64 S.quiet, .slice A1 a1 C1, .slice A2 a2 C2, .slice A3 a3 C3] 75)) := (Below.refl _ _).alloc (Nat.le_refl _) _
          refine ⟨hb.mono (Below.size HC.out), ?_⟩
          have hrow := heap_alloc_last wc (.cells #[.int .i64 S.low, .int .i64 S.high, .int .i64 S.quiet, .slice A1 a1 C1, .slice A2 a2 C2, .slice A3 a3 C3] 75)
          have hsz := World.size_alloc wc (.cells #[.int .i64 S.low, .int .i64 S.high, .int .i64 S.quiet, .slice A1 a1 C1, .slice A2 a2 C2, .slice A3 a3 C3] 75)
          have HF := Lib.hid (forked HC.out (by simpa [ints] using HO1.out) (by simpa [ints] using HO2.out) (by simpa using HO3.out) HA.out.1 HA.out.2.1 HA.out.2.2 hb hrow)
          clear hb hrow hsz
          try simp only [Act.put, List.setIfInBounds_toArray, List.set_cons_zero, List.set_cons_succ]
          -- 32: slot 2
          refine wpG_take (preBelow (w.heap.size)) (i := 32) (v := ?_) (by kernel_rfl) (some 2) (by kernel_rfl) rfl (by kernel_rfl) (by kernel_rfl) (by kernel_rfl) (fun _ _ _ h => h) (by rfl) (fun w' hw' => ?_) rfl ?_
          rotate_left
          · try (have hxx := cells6 (HD.out.gr (Below.trans HC.out hw')).doc.row; rw [HX.out.1, HX.out.2.1, HX.out.2.2] at hxx; obtain ⟨k0, k1, k2, k3, k4, k5⟩ := hxx)
            try have hbu := builtD6 S.low S.high S.quiet A1 A2 A3 (0 + a1) (0 + a2) (0 + a3) C1 C2 C3
            go_simp
            with_reducible rfl
          simp only [Act.put, List.setIfInBounds_toArray, List.set_cons_zero, List.set_cons_succ]
          refine wpG_done (by kernel_rfl) ?_ _
          go_wp2_with fail
          go_ret
          exact ⟨_, _, _, _, rfl, HF.out⟩
        · go_simp
          have hb : Gr wc (wc.alloc (.cells #[] 54)) := (Below.refl _ _).alloc (Nat.le_refl _) _
          refine ⟨hb.mono (Below.size HC.out), ?_⟩
          have n3 := Lib.hid (ownsRow_mono (own_new wc [] 54 0 2 rfl (Nat.zero_le _)) (Below.size HC.out))
          try have p1 := Lib.hid (far_new HO1.out)
          try have n1 := Lib.hid (ownsRow_below HO1.out hb)
          try have p2 := Lib.hid (far_new HO2.out)
          try have n2 := Lib.hid (ownsRow_below HO2.out hb)
          have nc := Lib.hid (Gr.trans HC.out hb)
          generalize wc.alloc (.cells #[] 54) = wn at *
          clear HC hb
          have HC := nc
          clear nc
          have HO3 := n3
          clear n3
          try (clear HO1; have HO1 := n1; clear n1)
          try (have HD13 := p1; clear p1)
          try (clear HO2; have HO2 := n2; clear n2)
          try (have HD23 := p2; clear p2)
          obtain ⟨wc, hwc⟩ : ∃ x, x = wn := ⟨_, rfl⟩
          subst hwc
          try simp only [Act.put, List.setIfInBounds_toArray, List.set_cons_zero, List.set_cons_succ]
          refine wpG_one (i := 23) rfl (by kernel_rfl) (by rfl) ?_
          refine wp_append_where _ (some 26) (.tmp 21) (.tmp 25) 41 rfl w.heap.size 3 i0 _ 1 8 Try.underlying41 hi0 hz0 hz1 hz2 rfl (by decide) _ _ _ rfl HO2.out _ a2 _ rfl (Rd.below HU.out HC.out) HONU.out HB2.out (by decide) (Below.size HC.out) rfl ?_
          intro v' wn ho hg hw
          have hb := grown_below HO2.out (Below.size HC.out) hg
          refine ⟨hb, ?_⟩
          obtain ⟨A2, C2, rfl, _, _⟩ := (own_rd ho).shape
          try (have q := far_grow HO1.out HD12.out hg hw; have n1 := Lib.hid q.1; have p1 := Lib.hid q.2; clear q)
          try (have q := far_grow HO3.out (far_sym HD23.out) hg hw; have n3 := Lib.hid q.1; have p3 := Lib.hid q.2; clear q)
          have nc : Hid (Gr w wn) := Below.trans HC.out hb
          clear HC HO2 hg hw hb
          have HC := nc
          have HO2 := Lib.hid ho
          clear nc ho
          try (clear HO1 HD12; have HO1 := n1; clear n1)
          try (have HD12 := p1; clear p1)
          try (clear HO3 HD23; have HO3 := n3; clear n3)
          try (have HD23 := Lib.hid (far_sym p3.out); clear p3)
          obtain ⟨wc, hwc⟩ : ∃ x, x = wn := ⟨_, rfl⟩
          subst hwc
          try simp only [Act.put, List.setIfInBounds_toArray, List.set_cons_zero, List.set_cons_succ]
          refine wpG_one (i := 29) rfl (by kernel_rfl) (by rfl) ?_
          refine wp_append_where _ (some 32) (.tmp 27) (.tmp 31) 51 rfl w.heap.size 54 i1 _ 2 16 Try.underlying51 hi1 hy0 hy1 hy2 rfl (by decide) _ _ _ rfl HO3.out _ a3 _ rfl (Rd.below HE.out HC.out) HONE.out HB3.out (by decide) (Below.size HC.out) rfl ?_
          intro v' wn ho hg hw
          have hb := grown_below HO3.out (Below.size HC.out) hg
          refine ⟨hb, ?_⟩
          obtain ⟨A3, C3, rfl, _, _⟩ := (own_rd ho).shape
          try (have q := far_grow HO1.out HD13.out hg hw; have n1 := Lib.hid q.1; have p1 := Lib.hid q.2; clear q)
          try (have q := far_grow HO2.out HD23.out hg hw; have n2 := Lib.hid q.1; have p2 := Lib.hid q.2; clear q)
          have nc : Hid (Gr w wn) := Below.trans HC.out hb
          clear HC HO3 hg hw hb
          have HC := nc
          have HO3 := Lib.hid ho
          clear nc ho
          try (clear HO1 HD13; have HO1 := n1; clear n1)
          try (have HD13 := p1; clear p1)
          try (clear HO2 HD23; have HO2 := n2; clear n2)
          try (have HD23 := p2; clear p2)
          obtain ⟨wc, hwc⟩ : ∃ x, x = wn := ⟨_, rfl⟩
          subst hwc
          try simp only [Act.put, List.setIfInBounds_toArray, List.set_cons_zero, List.set_cons_succ]
          -- 30: slot 33
          refine wpG_take (preBelow (w.heap.size)) (i := 30) (v := ?_) (by kernel_rfl) (some 33) (by kernel_rfl) rfl (by kernel_rfl) (by kernel_rfl) (by kernel_rfl) (fun _ _ _ h => h) (by rfl) (fun w' hw' => ?_) rfl ?_
          rotate_left
          · try (have hxx := cells6 (HD.out.gr (Below.trans HC.out hw')).doc.row; rw [HX.out.1, HX.out.2.1, HX.out.2.2] at hxx; obtain ⟨k0, k1, k2, k3, k4, k5⟩ := hxx)
            try have hbu := builtD6 S.low S.high S.quiet A1 A2 A3 (0 + a1) (0 + a2) (0 + a3) C1 C2 C3
            go_simp
            with_reducible rfl
          simp only [Act.put, List.setIfInBounds_toArray, List.set_cons_zero, List.set_cons_succ]
          refine wpG_one (i := 31) rfl (by kernel_rfl) (by rfl) ?_
          go_simp
          have hb : Gr wc (wc.alloc (.cells #[.int .i64 S.low, .int .i64 S.high, .int .i64 S.quiet, .slice A1 a1 C1, .slice A2 a2 C2, .slice A3 a3 C3] 75)) := (Below.refl _ _).alloc (Nat.le_refl _) _
          refine ⟨hb.mono (Below.size HC.out), ?_⟩
          have hrow := heap_alloc_last wc (.cells #[.int .i64 S.low, .int .i64 S.high, .int .i64 S.quiet, .slice A1 a1 C1, .slice A2 a2 C2, .slice A3 a3 C3] 75)
          have hsz := World.size_alloc wc (.cells #[.int .i64 S.low, .int .i64 S.high, .int .i64 S.quiet, .slice A1 a1 C1, .slice A2 a2 C2, .slice A3 a3 C3] 75)
          have HF := Lib.hid (forked HC.out (by simpa [ints] using HO1.out) (by simpa [ints] using HO2.out) (by simpa using HO3.out) HA.out.1 HA.out.2.1 HA.out.2.2 hb hrow)
          clear hb hrow hsz
          try simp only [Act.put, List.setIfInBounds_toArray, List.set_cons_zero, List.set_cons_succ]
          -- 32: slot 2
          refine wpG_take (preBelow (w.heap.size)) (i := 32) (v := ?_) (by kernel_rfl) (some 2) (by kernel_rfl) rfl (by kernel_rfl) (by kernel_rfl) (by kernel_rfl) (fun _ _ _ h => h) (by rfl) (fun w' hw' => ?_) rfl ?_
          rotate_left
          · try (have hxx := cells6 (HD.out.gr (Below.trans HC.out hw')).doc.row; rw [HX.out.1, HX.out.2.1, HX.out.2.2] at hxx; obtain ⟨k0, k1, k2, k3, k4, k5⟩ := hxx)
            try have hbu := builtD6 S.low S.high S.quiet A1 A2 A3 (0 + a1) (0 + a2) (0 + a3) C1 C2 C3
            go_simp
            with_reducible rfl
          simp only [Act.put, List.setIfInBounds_toArray, List.set_cons_zero, List.set_cons_succ]
          refine wpG_done (by kernel_rfl) ?_ _
          go_wp2_with fail
          go_ret
          exact ⟨_, _, _, _, rfl, HF.out⟩
      · go_simp
        have hb : Gr wc (wc.alloc (.cells #[] 54)) := (Below.refl _ _).alloc (Nat.le_refl _) _
        refine ⟨hb.mono (Below.size HC.out), ?_⟩
        have n3 := Lib.hid (ownsRow_mono (own_new wc [] 54 0 2 rfl (Nat.zero_le _)) (Below.size HC.out))
        try have p1 := Lib.hid (far_new HO1.out)
        try have n1 := Lib.hid (ownsRow_below HO1.out hb)
        try have p2 := Lib.hid (far_new HO2.out)
        try have n2 := Lib.hid (ownsRow_below HO2.out hb)
        have nc := Lib.hid (Gr.trans HC.out hb)
        generalize wc.alloc (.cells #[] 54) = wn at *
        clear HC hb
        have HC := nc
        clear nc
        have HO3 := n3
        clear n3
        try (clear HO1; have HO1 := n1; clear n1)
        try (have HD13 := p1; clear p1)
        try (clear HO2; have HO2 := n2; clear n2)
        try (have HD23 := p2; clear p2)
        obtain ⟨wc, hwc⟩ : ∃ x, x = wn := ⟨_, rfl⟩
        subst hwc
        try simp only [Act.put, List.setIfInBounds_toArray, List.set_cons_zero, List.set_cons_succ]
        refine wpG_one (i := 18) rfl (by kernel_rfl) (by rfl) ?_
        go_simp
        have hb : Gr wc (wc.alloc (.cells #[] 3)) := (Below.refl _ _).alloc (Nat.le_refl _) _
        refine ⟨hb.mono (Below.size HC.out), ?_⟩
        have n2 := Lib.hid (ownsRow_mono (own_new wc [] 3 0 1 rfl (Nat.zero_le _)) (Below.size HC.out))
        try have p1 := Lib.hid (far_new HO1.out)
        try have n1 := Lib.hid (ownsRow_below HO1.out hb)
        try have p3 := Lib.hid (far_new HO3.out)
        try have n3 := Lib.hid (ownsRow_below HO3.out hb)
        have nc := Lib.hid (Gr.trans HC.out hb)
        generalize wc.alloc (.cells #[] 3) = wn at *
        clear HC hb
        have HC := nc
        clear nc
        have HO2 := n2
        clear n2
        try (clear HO1; have HO1 := n1; clear n1)
        try (have HD12 := p1; clear p1)
        try (clear HO3; have HO3 := n3; clear n3)
        try (have HD23 := Lib.hid (far_sym p3.out); clear p3)
        obtain ⟨wc, hwc⟩ : ∃ x, x = wn := ⟨_, rfl⟩
        subst hwc
        try simp only [Act.put, List.setIfInBounds_toArray, List.set_cons_zero, List.set_cons_succ]
        refine wpG_one (i := 23) rfl (by kernel_rfl) (by rfl) ?_
        refine wp_append_where _ (some 26) (.tmp 21) (.tmp 25) 41 rfl w.heap.size 3 i0 _ 1 8 Try.underlying41 hi0 hz0 hz1 hz2 rfl (by decide) _ _ _ rfl HO2.out _ a2 _ rfl (Rd.below HU.out HC.out) HONU.out HB2.out (by decide) (Below.size HC.out) rfl ?_
        intro v' wn ho hg hw
        have hb := grown_below HO2.out (Below.size HC.out) hg
        refine ⟨hb, ?_⟩
        obtain ⟨A2, C2, rfl, _, _⟩ := (own_rd ho).shape
        try (have q := far_grow HO1.out HD12.out hg hw; have n1 := Lib.hid q.1; have p1 := Lib.hid q.2; clear q)
        try (have q := far_grow HO3.out (far_sym HD23.out) hg hw; have n3 := Lib.hid q.1; have p3 := Lib.hid q.2; clear q)
        have nc : Hid (Gr w wn) := Below.trans HC.out hb
        clear HC HO2 hg hw hb
        have HC := nc
        have HO2 := Lib.hid ho
        clear nc ho
        try (clear HO1 HD12; have HO1 := n1; clear n1)
        try (have HD12 := p1; clear p1)
        try (clear HO3 HD23; have HO3 := n3; clear n3)
        try (have HD23 := Lib.hid (far_sym p3.out); clear p3)
        obtain ⟨wc, hwc⟩ : ∃ x, x = wn := ⟨_, rfl⟩
        subst hwc
        try simp only [Act.put, List.setIfInBounds_toArray, List.set_cons_zero, List.set_cons_succ]
        refine wpG_one (i := 29) rfl (by kernel_rfl) (by rfl) ?_
        refine wp_append_where _ (some 32) (.tmp 27) (.tmp 31) 51 rfl w.heap.size 54 i1 _ 2 16 Try.underlying51 hi1 hy0 hy1 hy2 rfl (by decide) _ _ _ rfl HO3.out _ a3 _ rfl (Rd.below HE.out HC.out) HONE.out HB3.out (by decide) (Below.size HC.out) rfl ?_
        intro v' wn ho hg hw
        have hb := grown_below HO3.out (Below.size HC.out) hg
        refine ⟨hb, ?_⟩
        obtain ⟨A3, C3, rfl, _, _⟩ := (own_rd ho).shape
        try (have q := far_grow HO1.out HD13.out hg hw; have n1 := Lib.hid q.1; have p1 := Lib.hid q.2; clear q)
        try (have q := far_grow HO2.out HD23.out hg hw; have n2 := Lib.hid q.1; have p2 := Lib.hid q.2; clear q)
        have nc : Hid (Gr w wn) := Below.trans HC.out hb
        clear HC HO3 hg hw hb
        have HC := nc
        have HO3 := Lib.hid ho
        clear nc ho
        try (clear HO1 HD13; have HO1 := n1; clear n1)
        try (have HD13 := p1; clear p1)
        try (clear HO2 HD23; have HO2 := n2; clear n2)
        try (have HD23 := p2; clear p2)
        obtain ⟨wc, hwc⟩ : ∃ x, x = wn := ⟨_, rfl⟩
        subst hwc
        try simp only [Act.put, List.setIfInBounds_toArray, List.set_cons_zero, List.set_cons_succ]
        -- 30: slot 33
        refine wpG_take (preBelow (w.heap.size)) (i := 30) (v := ?_) (by kernel_rfl) (some 33) (by kernel_rfl) rfl (by kernel_rfl) (by kernel_rfl) (by kernel_rfl) (fun _ _ _ h => h) (by rfl) (fun w' hw' => ?_) rfl ?_
        rotate_left
        · try (have hxx := cells6 (HD.out.gr (Below.trans HC.out hw')).doc.row; rw [HX.out.1, HX.out.2.1, HX.out.2.2] at hxx; obtain ⟨k0, k1, k2, k3, k4, k5⟩ := hxx)
          try have hbu := builtD6 S.low S.high S.quiet A1 A2 A3 (0 + a1) (0 + a2) (0 + a3) C1 C2 C3
          go_simp
          with_reducible rfl
        simp only [Act.put, List.setIfInBounds_toArray, List.set_cons_zero, List.set_cons_succ]
        refine wpG_one (i := 31) rfl (by kernel_rfl) (by rfl) ?_
        go_simp
        have hb : Gr wc (wc.alloc (.cells #[.int .i64 S.low, .int .i64 S.high, .int .i64 S.quiet, .slice A1 a1 C1, .slice A2 a2 C2, .slice A3 a3 C3] 75)) := (Below.refl _ _).alloc (Nat.le_refl _) _
        refine ⟨hb.mono (Below.size HC.out), ?_⟩
        have hrow := heap_alloc_last wc (.cells #[.int .i64 S.low, .int .i64 S.high, .int .i64 S.quiet, .slice A1 a1 C1, .slice A2 a2 C2, .slice A3 a3 C3] 75)
        have hsz := World.size_alloc wc (.cells #[.int .i64 S.low, .int .i64 S.high, .int .i64 S.quiet, .slice A1 a1 C1, .slice A2 a2 C2, .slice A3 a3 C3] 75)
        have HF := Lib.hid (forked HC.out (by simpa [ints] using HO1.out) (by simpa [ints] using HO2.out) (by simpa using HO3.out) HA.out.1 HA.out.2.1 HA.out.2.2 hb hrow)
        clear hb hrow hsz
        try simp only [Act.put, List.setIfInBounds_toArray, List.set_cons_zero, List.set_cons_succ]
        -- 32: slot 2
        refine wpG_take (preBelow (w.heap.size)) (i := 32) (v := ?_) (by kernel_rfl) (some 2) (by kernel_rfl) rfl (by kernel_rfl) (by kernel_rfl) (by kernel_rfl) (fun _ _ _ h => h) (by rfl) (fun w' hw' => ?_) rfl ?_
        rotate_left
        · try (have hxx := cells6 (HD.out.gr (Below.trans HC.out hw')).doc.row; rw [HX.out.1, HX.out.2.1, HX.out.2.2] at hxx; obtain ⟨k0, k1, k2, k3, k4, k5⟩ := hxx)
          try have hbu := builtD6 S.low S.high S.quiet A1 A2 A3 (0 + a1) (0 + a2) (0 + a3) C1 C2 C3
          go_simp
          with_reducible rfl
        simp only [Act.put, List.setIfInBounds_toArray, List.set_cons_zero, List.set_cons_succ]
        refine wpG_done (by kernel_rfl) ?_ _
        go_wp2_with fail
        go_ret
        exact ⟨_, _, _, _, rfl, HF.out⟩
    · go_simp
      have hb : Gr wc (wc.alloc (.cells #[] 3)) := (Below.refl _ _).alloc (Nat.le_refl _) _
      refine ⟨hb.mono (Below.size HC.out), ?_⟩
      have n2 := Lib.hid (ownsRow_mono (own_new wc [] 3 0 1 rfl (Nat.zero_le _)) (Below.size HC.out))
      try have p1 := Lib.hid (far_new HO1.out)
      try have n1 := Lib.hid (ownsRow_below HO1.out hb)
      try have p3 := Lib.hid (far_new HO3.out)
      try have n3 := Lib.hid (ownsRow_below HO3.out hb)
      have nc := Lib.hid (Gr.trans HC.out hb)
      generalize wc.alloc (.cells #[] 3) = wn at *
      clear HC hb
      have HC := nc
      clear nc
      have HO2 := n2
      clear n2
      try (clear HO1; have HO1 := n1; clear n1)
      try (have HD12 := p1; clear p1)
      try (clear HO3; have HO3 := n3; clear n3)
      try (have HD23 := Lib.hid (far_sym p3.out); clear p3)
      obtain ⟨wc, hwc⟩ : ∃ x, x = wn := ⟨_, rfl⟩
      subst hwc
      try simp only [Act.put, List.setIfInBounds_toArray, List.set_cons_zero, List.set_cons_succ]
      refine wpG_two (i := 17) (j := 24) rfl rfl (by kernel_rfl) (by rfl) (by rfl) ?_ ?_
      · refine wp_append_where _ (some 20) (.tmp 15) (.tmp 19) 41 rfl w.heap.size 3 i0 _ 1 8 Try.underlying41 hi0 hz0 hz1 hz2 rfl (by decide) _ _ _ rfl HO1.out _ a1 _ rfl (Rd.below HR.out HC.out) HONR.out HB1.out (by decide) (Below.size HC.out) rfl ?_
        intro v' wn ho hg hw
        have hb := grown_below HO1.out (Below.size HC.out) hg
        refine ⟨hb, ?_⟩
        obtain ⟨A1, C1, rfl, _, _⟩ := (own_rd ho).shape
        try (have q := far_grow HO2.out (far_sym HD12.out) hg hw; have n2 := Lib.hid q.1; have p2 := Lib.hid q.2; clear q)
        try (have q := far_grow HO3.out (far_sym HD13.out) hg hw; have n3 := Lib.hid q.1; have p3 := Lib.hid q.2; clear q)
        have nc : Hid (Gr w wn) := Below.trans HC.out hb
        clear HC HO1 hg hw hb
        have HC := nc
        have HO1 := Lib.hid ho
        clear nc ho
        try (clear HO2 HD12; have HO2 := n2; clear n2)
        try (have HD12 := Lib.hid (far_sym p2.out); clear p2)
        try (clear HO3 HD13; have HO3 := n3; clear n3)
        try (have HD13 := Lib.hid (far_sym p3.out); clear p3)
        obtain ⟨wc, hwc⟩ : ∃ x, x = wn := ⟨_, rfl⟩
        subst hwc
        try simp only [Act.put, List.setIfInBounds_toArray, List.set_cons_zero, List.set_cons_succ]
        refine wpG_two (i := 23) (j := 24) rfl rfl (by kernel_rfl) (by rfl) (by rfl) ?_ ?_
        · refine wp_append_where _ (some 26) (.tmp 21) (.tmp 25) 41 rfl w.heap.size 3 i0 _ 1 8 Try.underlying41 hi0 hz0 hz1 hz2 rfl (by decide) _ _ _ rfl HO2.out _ a2 _ rfl (Rd.below HU.out HC.out) HONU.out HB2.out (by decide) (Below.size HC.out) rfl ?_
          intro v' wn ho hg hw
          have hb := grown_below HO2.out (Below.size HC.out) hg
          refine ⟨hb, ?_⟩
          obtain ⟨A2, C2, rfl, _, _⟩ := (own_rd ho).shape
          try (have q := far_grow HO1.out HD12.out hg hw; have n1 := Lib.hid q.1; have p1 := Lib.hid q.2; clear q)
          try (have q := far_grow HO3.out (far_sym HD23.out) hg hw; have n3 := Lib.hid q.1; have p3 := Lib.hid q.2; clear q)
          have nc : Hid (Gr w wn) := Below.trans HC.out hb
          clear HC HO2 hg hw hb
          have HC := nc
          have HO2 := Lib.hid ho
          clear nc ho
          try (clear HO1 HD12; have HO1 := n1; clear n1)
          try (have HD12 := p1; clear p1)
          try (clear HO3 HD23; have HO3 := n3; clear n3)
          try (have HD23 := Lib.hid (far_sym p3.out); clear p3)
          obtain ⟨wc, hwc⟩ : ∃ x, x = wn := ⟨_, rfl⟩
          subst hwc
          try simp only [Act.put, List.setIfInBounds_toArray, List.set_cons_zero, List.set_cons_succ]
          refine wpG_one (i := 24) rfl (by kernel_rfl) (by rfl) ?_
          go_simp
          have hb : Gr wc (wc.alloc (.cells #[] 54)) := (Below.refl _ _).alloc (Nat.le_refl _) _
          refine ⟨hb.mono (Below.size HC.out), ?_⟩
          have n3 := Lib.hid (ownsRow_mono (own_new wc [] 54 0 2 rfl (Nat.zero_le _)) (Below.size HC.out))
          try have p1 := Lib.hid (far_new HO1.out)
          try have n1 := Lib.hid (ownsRow_below HO1.out hb)
          try have p2 := Lib.hid (far_new HO2.out)
          try have n2 := Lib.hid (ownsRow_below HO2.out hb)
          have nc := Lib.hid (Gr.trans HC.out hb)
          generalize wc.alloc (.cells #[] 54) = wn at *
          clear HC hb
          have HC := nc
          clear nc
          have HO3 := n3
          clear n3
          try (clear HO1; have HO1 := n1; clear n1)
          try (have HD13 := p1; clear p1)
          try (clear HO2; have HO2 := n2; clear n2)
          try (have HD23 := p2; clear p2)
          obtain ⟨wc, hwc⟩ : ∃ x, x = wn := ⟨_, rfl⟩
          subst hwc
          try simp only [Act.put, List.setIfInBounds_toArray, List.set_cons_zero, List.set_cons_succ]
          refine wpG_one (i := 29) rfl (by kernel_rfl) (by rfl) ?_
          refine wp_append_where _ (some 32) (.tmp 27) (.tmp 31) 51 rfl w.heap.size 54 i1 _ 2 16 Try.underlying51 hi1 hy0 hy1 hy2 rfl (by decide) _ _ _ rfl HO3.out _ a3 _ rfl (Rd.below HE.out HC.out) HONE.out HB3.out (by decide) (Below.size HC.out) rfl ?_
          intro v' wn ho hg hw
          have hb := grown_below HO3.out (Below.size HC.out) hg
          refine ⟨hb, ?_⟩
          obtain ⟨A3, C3, rfl, _, _⟩ := (own_rd ho).shape
          try (have q := far_grow HO1.out HD13.out hg hw; have n1 := Lib.hid q.1; have p1 := Lib.hid q.2; clear q)
          try (have q := far_grow HO2.out HD23.out hg hw; have n2 := Lib.hid q.1; have p2 := Lib.hid q.2; clear q)
          have nc : Hid (Gr w wn) := Below.trans HC.out hb
          clear HC HO3 hg hw hb
          have HC := nc
          have HO3 := Lib.hid ho
          clear nc ho
          try (clear HO1 HD13; have HO1 := n1; clear n1)
          try (have HD13 := p1; clear p1)
          try (clear HO2 HD23; have HO2 := n2; clear n2)
          try (have HD23 := p2; clear p2)
          obtain ⟨wc, hwc⟩ : ∃ x, x = wn := ⟨_, rfl⟩
          subst hwc
          try simp only [Act.put, List.setIfInBounds_toArray, List.set_cons_zero, List.set_cons_succ]
          -- 30: slot 33
          refine wpG_take (preBelow (w.heap.size)) (i := 30) (v := ?_) (by kernel_rfl) (some 33) (by kernel_rfl) rfl (by kernel_rfl) (by kernel_rfl) (by kernel_rfl) (fun _ _ _ h => h) (by rfl) (fun w' hw' => ?_) rfl ?_
          rotate_left
          · try (have hxx := cells6 (HD.out.gr (Below.trans HC.out hw')).doc.row; rw [HX.out.1, HX.out.2.1, HX.out.2.2] at hxx; obtain ⟨k0, k1, k2, k3, k4, k5⟩ := hxx)
            try have hbu := builtD6 S.low S.high S.quiet A1 A2 A3 (0 + a1) (0 + a2) (0 + a3) C1 C2 C3
            go_simp
            with_reducible rfl
          simp only [Act.put, List.setIfInBounds_toArray, List.set_cons_zero, List.set_cons_succ]
          refine wpG_one (i := 31) rfl (by kernel_rfl) (by rfl) ?_
          go_simp
          have hb : Gr wc (wc.alloc (.cells #[.int .i64 S.low, .int .i64 S.high, .int .i64 S.quiet, .slice A1 a1 C1, .slice A2 a2 C2, .slice A3 a3 C3] 75)) := (Below.refl _ _).alloc (Nat.le_refl _) _
          refine ⟨hb.mono (Below.size HC.out), ?_⟩
          have hrow := heap_alloc_last wc (.cells #[.int .i64 S.low, .int .i64 S.high, .int .i64 S.quiet, .slice A1 a1 C1, .slice A2 a2 C2, .slice A3 a3 C3] 75)
          have hsz := World.size_alloc wc (.cells #[.int .i64 S.low, .int .i64 S.high, .int .i64 S.quiet, .slice A1 a1 C1, .slice A2 a2 C2, .slice A3 a3 C3] 75)
          have HF := Lib.hid (forked HC.out (by simpa [ints] using HO1.out) (by simpa [ints] using HO2.out) (by simpa using HO3.out) HA.out.1 HA.out.2.1 HA.out.2.2 hb hrow)
          clear hb hrow hsz
          try simp only [Act.put, List.setIfInBounds_toArray, List.set_cons_zero, List.set_cons_succ]
          -- 32: slot 2
          refine wpG_take (preBelow (w.heap.size)) (i := 32) (v := ?_) (by kernel_rfl) (some 2) (by kernel_rfl) rfl (by kernel_rfl) (by kernel_rfl) (by kernel_rfl) (fun _ _ _ h => h) (by rfl) (fun w' hw' => ?_) rfl ?_
          rotate_left
          · try (have hxx := cells6 (HD.out.gr (Below.trans HC.out hw')).doc.row; rw [HX.out.1, HX.out.2.1, HX.out.2.2] at hxx; obtain ⟨k0, k1, k2, k3, k4, k5⟩ := hxx)
            try have hbu := builtD6 S.low S.high S.quiet A1 A2 A3 (0 + a1) (0 + a2) (0 + a3) C1 C2 C3
            go_simp
            with_reducible rfl
          simp only [Act.put, List.setIfInBounds_toArray, List.set_cons_zero, List.set_cons_succ]
          refine wpG_done (by kernel_rfl) ?_ _
          go_wp2_with fail
          go_ret
          exact ⟨_, _, _, _, rfl, HF.out⟩
        · go_simp
          have hb : Gr wc (wc.alloc (.cells #[] 54)) := (Below.refl _ _).alloc (Nat.le_refl _) _
          refine ⟨hb.mono (Below.size HC.out), ?_⟩
          have n3 := Lib.hid (ownsRow_mono (own_new wc [] 54 0 2 rfl (Nat.zero_le _)) (Below.size HC.out))
          try have p1 := Lib.hid (far_new HO1.out)
          try have n1 := Lib.hid (ownsRow_below HO1.out hb)
          try have p2 := Lib.hid (far_new HO2.out)
          try have n2 := Lib.hid (ownsRow_below HO2.out hb)
          have nc := Lib.hid (Gr.trans HC.out hb)
          generalize wc.alloc (.cells #[] 54) = wn at *
          clear HC hb
          have HC := nc
          clear nc
          have HO3 := n3
          clear n3
          try (clear HO1; have HO1 := n1; clear n1)
          try (have HD13 := p1; clear p1)
          try (clear HO2; have HO2 := n2; clear n2)
          try (have HD23 := p2; clear p2)
          obtain ⟨wc, hwc⟩ : ∃ x, x = wn := ⟨_, rfl⟩
          subst hwc
          try simp only [Act.put, List.setIfInBounds_toArray, List.set_cons_zero, List.set_cons_succ]
          refine wpG_one (i := 23) rfl (by kernel_rfl) (by rfl) ?_
          refine wp_append_where _ (some 26) (.tmp 21) (.tmp 25) 41 rfl w.heap.size 3 i0 _ 1 8 Try.underlying41 hi0 hz0 hz1 hz2 rfl (by decide) _ _ _ rfl HO2.out _ a2 _ rfl (Rd.below HU.out HC.out) HONU.out HB2.out (by decide) (Below.size HC.out) rfl ?_
          intro v' wn ho hg hw
          have hb := grown_below HO2.out (Below.size HC.out) hg
          refine ⟨hb, ?_⟩
          obtain ⟨A2, C2, rfl, _, _⟩ := (own_rd ho).shape
          try (have q := far_grow HO1.out HD12.out hg hw; have n1 := Lib.hid q.1; have p1 := Lib.hid q.2; clear q)
          try (have q := far_grow HO3.out (far_sym HD23.out) hg hw; have n3 := Lib.hid q.1; have p3 := Lib.hid q.2; clear q)
          have nc : Hid (Gr w wn) := Below.trans HC.out hb
          clear HC HO2 hg hw hb
          have HC := nc
          have HO2 := Lib.hid ho
          clear nc ho
          try (clear HO1 HD12; have HO1 := n1; clear n1)
          try (have HD12 := p1; clear p1)
          try (clear HO3 HD23; have HO3 := n3; clear n3)
          try (have HD23 := Lib.hid (far_sym p3.out); clear p3)
          obtain ⟨wc, hwc⟩ : ∃ x, x = wn := ⟨_, rfl⟩
          subst hwc
          try simp only [Act.put, List.setIfInBounds_toArray, List.set_cons_zero, List.set_cons_succ]
          refine wpG_one (i := 29) rfl (by kernel_rfl) (by rfl) ?_
          refine wp_append_where _ (some 32) (.tmp 27) (.tmp 31) 51 rfl w.heap.size 54 i1 _ 2 16 Try.underlying51 hi1 hy0 hy1 hy2 rfl (by decide) _ _ _ rfl HO3.out _ a3 _ rfl (Rd.below HE.out HC.out) HONE.out HB3.out (by decide) (Below.size HC.out) rfl ?_
          intro v' wn ho hg hw
          have hb := grown_below HO3.out (Below.size HC.out) hg
          refine ⟨hb, ?_⟩
          obtain ⟨A3, C3, rfl, _, _⟩ := (own_rd ho).shape
          try (have q := far_grow HO1.out HD13.out hg hw; have n1 := Lib.hid q.1; have p1 := Lib.hid q.2; clear q)
          try (have q := far_grow HO2.out HD23.out hg hw; have n2 := Lib.hid q.1; have p2 := Lib.hid q.2; clear q)
          have nc : Hid (Gr w wn) := Below.trans HC.out hb
          clear HC HO3 hg hw hb
          have HC := nc
          have HO3 := Lib.hid ho
          clear nc ho
          try (clear HO1 HD13; have HO1 := n1; clear n1)
          try (have HD13 := p1; clear p1)
          try (clear HO2 HD23; have HO2 := n2; clear n2)
          try (have HD23 := p2; clear p2)
          obtain ⟨wc, hwc⟩ : ∃ x, x = wn := ⟨_, rfl⟩
          subst hwc
          try simp only [Act.put, List.setIfInBounds_toArray, List.set_cons_zero, List.set_cons_succ]
          -- 30: slot 33
          refine wpG_take (preBelow (w.heap.size)) (i := 30) (v := ?_) (by kernel_rfl) (some 33) (by kernel_rfl) rfl (by kernel_rfl) (by kernel_rfl) (by kernel_rfl) (fun _ _ _ h => h) (by rfl) (fun w' hw' => ?_) rfl ?_
          rotate_left
          · try (have hxx := cells6 (HD.out.gr (Below.trans HC.out hw')).doc.row; rw [HX.out.1, HX.out.2.1, HX.out.2.2] at hxx; obtain ⟨k0, k1, k2, k3, k4, k5⟩ := hxx)
            try have hbu := builtD6 S.low S.high S.quiet A1 A2 A3 (0 + a1) (0 + a2) (0 + a3) C1 C2 C3
            go_simp
            with_reducible rfl
          simp only [Act.put, List.setIfInBounds_toArray, List.set_cons_zero, List.set_cons_succ]
          refine wpG_one (i := 31) rfl (by kernel_rfl) (by rfl) ?_
          go_simp
          have hb : Gr wc (wc.alloc (.cells #[.int .i64 S.low, .int .i64 S.high, .int .i64 S.quiet, .slice A1 a1 C1, .slice A2 a2 C2, .slice A3 a3 C3] 75)) := (Below.refl _ _).alloc (Nat.le_refl _) _
          refine ⟨hb.mono (Below.size HC.out), ?_⟩
          have hrow := heap_alloc_last wc (.cells #[.int .i64 S.low, .int .i64 S.high, .int .i64 S.quiet, .slice A1 a1 C1, .slice A2 a2 C2, .slice A3 a3 C3] 75)
          have hsz := World.size_alloc wc (.cells #[.int .i64 S.low, .int .i64 S.high, .int .i64 S.quiet, .slice A1 a1 C1, .slice A2 a2 C2, .slice A3 a3 C3] 75)
          have HF := Lib.hid (forked HC.out (by simpa [ints] using HO1.out) (by simpa [ints] using HO2.out) (by simpa using HO3.out) HA.out.1 HA.out.2.1 HA.out.2.2 hb hrow)
          clear hb hrow hsz
          try simp only [Act.put, List.setIfInBounds_toArray, List.set_cons_zero, List.set_cons_succ]
          -- 32: slot 2
          refine wpG_take (preBelow (w.heap.size)) (i := 32) (v := ?_) (by kernel_rfl) (some 2) (by kernel_rfl) rfl (by kernel_rfl) (by kernel_rfl) (by kernel_rfl) (fun _ _ _ h => h) (by rfl) (fun w' hw' => ?_) rfl ?_
          rotate_left
          · try (have hxx := cells6 (HD.out.gr (Below.trans HC.out hw')).doc.row; rw [HX.out.1, HX.out.2.1, HX.out.2.2] at hxx; obtain ⟨k0, k1, k2, k3, k4, k5⟩ := hxx)
            try have hbu := builtD6 S.low S.high S.quiet A1 A2 A3 (0 + a1) (0 + a2) (0 + a3) C1 C2 C3
            go_simp
            with_reducible rfl
          simp only [Act.put, List.setIfInBounds_toArray, List.set_cons_zero, List.set_cons_succ]
          refine wpG_done (by kernel_rfl) ?_ _
          go_wp2_with fail
          go_ret
          exact ⟨_, _, _, _, rfl, HF.out⟩
      · go_simp
        have hb : Gr wc (wc.alloc (.cells #[] 54)) := (Below.refl _ _).alloc (Nat.le_refl _) _
        refine ⟨hb.mono (Below.size HC.out), ?_⟩
        have n3 := Lib.hid (ownsRow_mono (own_new wc [] 54 0 2 rfl (Nat.zero_le _)) (Below.size HC.out))
        try have p1 := Lib.hid (far_new HO1.out)
        try have n1 := Lib.hid (ownsRow_below HO1.out hb)
        try have p2 := Lib.hid (far_new HO2.out)
        try have n2 := Lib.hid (ownsRow_below HO2.out hb)
        have nc := Lib.hid (Gr.trans HC.out hb)
        generalize wc.alloc (.cells #[] 54) = wn at *
        clear HC hb
        have HC := nc
        clear nc
        have HO3 := n3
        clear n3
        try (clear HO1; have HO1 := n1; clear n1)
        try (have HD13 := p1; clear p1)
        try (clear HO2; have HO2 := n2; clear n2)
        try (have HD23 := p2; clear p2)
        obtain ⟨wc, hwc⟩ : ∃ x, x = wn := ⟨_, rfl⟩
        subst hwc
        try simp only [Act.put, List.setIfInBounds_toArray, List.set_cons_zero, List.set_cons_succ]
        refine wpG_one (i := 17) rfl (by kernel_rfl) (by rfl) ?_
        refine wp_append_where _ (some 20) (.tmp 15) (.tmp 19) 41 rfl w.heap.size 3 i0 _ 1 8 Try.underlying41 hi0 hz0 hz1 hz2 rfl (by decide) _ _ _ rfl HO1.out _ a1 _ rfl (Rd.below HR.out HC.out) HONR.out HB1.out (by decide) (Below.size HC.out) rfl ?_
        intro v' wn ho hg hw
        have hb := grown_below HO1.out (Below.size HC.out) hg
        refine ⟨hb, ?_⟩
        obtain ⟨A1, C1, rfl, _, _⟩ := (own_rd ho).shape
        try (have q := far_grow HO2.out (far_sym HD12.out) hg hw; have n2 := Lib.hid q.1; have p2 := Lib.hid q.2; clear q)
        try (have q := far_grow HO3.out (far_sym HD13.out) hg hw; have n3 := Lib.hid q.1; have p3 := Lib.hid q.2; clear q)
        have nc : Hid (Gr w wn) := Below.trans HC.out hb
        clear HC HO1 hg hw hb
        have HC := nc
        have HO1 := Lib.hid ho
        clear nc ho
        try (clear HO2 HD12; have HO2 := n2; clear n2)
        try (have HD12 := Lib.hid (far_sym p2.out); clear p2)
        try (clear HO3 HD13; have HO3 := n3; clear n3)
        try (have HD13 := Lib.hid (far_sym p3.out); clear p3)
        obtain ⟨wc, hwc⟩ : ∃ x, x = wn := ⟨_, rfl⟩
        subst hwc
        try simp only [Act.put, List.setIfInBounds_toArray, List.set_cons_zero, List.set_cons_succ]
        refine wpG_one (i := 23) rfl (by kernel_rfl) (by rfl) ?_
        refine wp_append_where _ (some 26) (.tmp 21) (.tmp 25) 41 rfl w.heap.size 3 i0 _ 1 8 Try.underlying41 hi0 hz0 hz1 hz2 rfl (by decide) _ _ _ rfl HO2.out _ a2 _ rfl (Rd.below HU.out HC.out) HONU.out HB2.out (by decide) (Below.size HC.out) rfl ?_
        intro v' wn ho hg hw
        have hb := grown_below HO2.out (Below.size HC.out) hg
        refine ⟨hb, ?_⟩
        obtain ⟨A2, C2, rfl, _, _⟩ := (own_rd ho).shape
        try (have q := far_grow HO1.out HD12.out hg hw; have n1 := Lib.hid q.1; have p1 := Lib.hid q.2; clear q)
        try (have q := far_grow HO3.out (far_sym HD23.out) hg hw; have n3 := Lib.hid q.1; have p3 := Lib.hid q.2; clear q)
        have nc : Hid (Gr w wn) := Below.trans HC.out hb
        clear HC HO2 hg hw hb
        have HC := nc
        have HO2 := Lib.hid ho
        clear nc ho
        try (clear HO1 HD12; have HO1 := n1; clear n1)
        try (have HD12 := p1; clear p1)
        try (clear HO3 HD23; have HO3 := n3; clear n3)
        try (have HD23 := Lib.hid (far_sym p3.out); clear p3)
        obtain ⟨wc, hwc⟩ : ∃ x, x = wn := ⟨_, rfl⟩
        subst hwc
        try simp only [Act.put, List.setIfInBounds_toArray, List.set_cons_zero, List.set_cons_succ]
        refine wpG_one (i := 29) rfl (by kernel_rfl) (by rfl) ?_
        refine wp_append_where _ (some 32) (.tmp 27) (.tmp 31) 51 rfl w.heap.size 54 i1 _ 2 16 Try.underlying51 hi1 hy0 hy1 hy2 rfl (by decide) _ _ _ rfl HO3.out _ a3 _ rfl (Rd.below HE.out HC.out) HONE.out HB3.out (by decide) (Below.size HC.out) rfl ?_
        intro v' wn ho hg hw
        have hb := grown_below HO3.out (Below.size HC.out) hg
        refine ⟨hb, ?_⟩
        obtain ⟨A3, C3, rfl, _, _⟩ := (own_rd ho).shape
        try (have q := far_grow HO1.out HD13.out hg hw; have n1 := Lib.hid q.1; have p1 := Lib.hid q.2; clear q)
        try (have q := far_grow HO2.out HD23.out hg hw; have n2 := Lib.hid q.1; have p2 := Lib.hid q.2; clear q)
        have nc : Hid (Gr w wn) := Below.trans HC.out hb
        clear HC HO3 hg hw hb
        have HC := nc
        have HO3 := Lib.hid ho
        clear nc ho
        try (clear HO1 HD13; have HO1 := n1; clear n1)
        try (have HD13 := p1; clear p1)
        try (clear HO2 HD23; have HO2 := n2; clear n2)
        try (have HD23 := p2; clear p2)
        obtain ⟨wc, hwc⟩ : ∃ x, x = wn := ⟨_, rfl⟩
        subst hwc
        try simp only [Act.put, List.setIfInBounds_toArray, List.set_cons_zero, List.set_cons_succ]
        -- 30: slot 33
        refine wpG_take (preBelow (w.heap.size)) (i := 30) (v := ?_) (by kernel_rfl) (some 33) (by kernel_rfl) rfl (by kernel_rfl) (by kernel_rfl) (by kernel_rfl) (fun _ _ _ h => h) (by rfl) (fun w' hw' => ?_) rfl ?_
        rotate_left
        · try (have hxx := cells6 (HD.out.gr (Below.trans HC.out hw')).doc.row; rw [HX.out.1, HX.out.2.1, HX.out.2.2] at hxx; obtain ⟨k0, k1, k2, k3, k4, k5⟩ := hxx)
          try have hbu := builtD6 S.low S.high S.quiet A1 A2 A3 (0 + a1) (0 + a2) (0 + a3) C1 C2 C3
          go_simp
          with_reducible rfl
        simp only [Act.put, List.setIfInBounds_toArray, List.set_cons_zero, List.set_cons_succ]
        refine wpG_one (i := 31) rfl (by kernel_rfl) (by rfl) ?_
        go_simp
        have hb : Gr wc (wc.alloc (.cells #[.int .i64 S.low, .int .i64 S.high, .int .i64 S.quiet, .slice A1 a1 C1, .slice A2 a2 C2, .slice A3 a3 C3] 75)) := (Below.refl _ _).alloc (Nat.le_refl _) _
        refine ⟨hb.mono (Below.size HC.out), ?_⟩
        have hrow := heap_alloc_last wc (.cells #[.int .i64 S.low, .int .i64 S.high, .int .i64 S.quiet, .slice A1 a1 C1, .slice A2 a2 C2, .slice A3 a3 C3] 75)
        have hsz := World.size_alloc wc (.cells #[.int .i64 S.low, .int .i64 S.high, .int .i64 S.quiet, .slice A1 a1 C1, .slice A2 a2 C2, .slice A3 a3 C3] 75)
        have HF := Lib.hid (forked HC.out (by simpa [ints] using HO1.out) (by simpa [ints] using HO2.out) (by simpa using HO3.out) HA.out.1 HA.out.2.1 HA.out.2.2 hb hrow)
        clear hb hrow hsz
        try simp only [Act.put, List.setIfInBounds_toArray, List.set_cons_zero, List.set_cons_succ]
        -- 32: slot 2
        refine wpG_take (preBelow (w.heap.size)) (i := 32) (v := ?_) (by kernel_rfl) (some 2) (by kernel_rfl) rfl (by kernel_rfl) (by kernel_rfl) (by kernel_rfl) (fun _ _ _ h => h) (by rfl) (fun w' hw' => ?_) rfl ?_
        rotate_left
        · try (have hxx := cells6 (HD.out.gr (Below.trans HC.out hw')).doc.row; rw [HX.out.1, HX.out.2.1, HX.out.2.2] at hxx; obtain ⟨k0, k1, k2, k3, k4, k5⟩ := hxx)
          try have hbu := builtD6 S.low S.high S.quiet A1 A2 A3 (0 + a1) (0 + a2) (0 + a3) C1 C2 C3
          go_simp
          with_reducible rfl
        simp only [Act.put, List.setIfInBounds_toArray, List.set_cons_zero, List.set_cons_succ]
        refine wpG_done (by kernel_rfl) ?_ _
        go_wp2_with fail
        go_ret
        exact ⟨_, _, _, _, rfl, HF.out⟩
    · go_simp
      have hb : Gr wc (wc.alloc (.cells #[] 54)) := (Below.refl _ _).alloc (Nat.le_refl _) _
      refine ⟨hb.mono (Below.size HC.out), ?_⟩
      have n3 := Lib.hid (ownsRow_mono (own_new wc [] 54 0 2 rfl (Nat.zero_le _)) (Below.size HC.out))
      try have p1 := Lib.hid (far_new HO1.out)
      try have n1 := Lib.hid (ownsRow_below HO1.out hb)
      try have p2 := Lib.hid (far_new HO2.out)
      try have n2 := Lib.hid (ownsRow_below HO2.out hb)
      have nc := Lib.hid (Gr.trans HC.out hb)
      generalize wc.alloc (.cells #[] 54) = wn at *
      clear HC hb
      have HC := nc
      clear nc
      have HO3 := n3
      clear n3
      try (clear HO1; have HO1 := n1; clear n1)
      try (have HD13 := p1; clear p1)
      try (clear HO2; have HO2 := n2; clear n2)
      try (have HD23 := p2; clear p2)
      obtain ⟨wc, hwc⟩ : ∃ x, x = wn := ⟨_, rfl⟩
      subst hwc
      try simp only [Act.put, List.setIfInBounds_toArray, List.set_cons_zero, List.set_cons_succ]
      refine wpG_two (i := 17) (j := 18) rfl rfl (by kernel_rfl) (by rfl) (by rfl) ?_ ?_
      · refine wp_append_where _ (some 20) (.tmp 15) (.tmp 19) 41 rfl w.heap.size 3 i0 _ 1 8 Try.underlying41 hi0 hz0 hz1 hz2 rfl (by decide) _ _ _ rfl HO1.out _ a1 _ rfl (Rd.below HR.out HC.out) HONR.out HB1.out (by decide) (Below.size HC.out) rfl ?_
        intro v' wn ho hg hw
        have hb := grown_below HO1.out (Below.size HC.out) hg
        refine ⟨hb, ?_⟩
        obtain ⟨A1, C1, rfl, _, _⟩ := (own_rd ho).shape
        try (have q := far_grow HO2.out (far_sym HD12.out) hg hw; have n2 := Lib.hid q.1; have p2 := Lib.hid q.2; clear q)
        try (have q := far_grow HO3.out (far_sym HD13.out) hg hw; have n3 := Lib.hid q.1; have p3 := Lib.hid q.2; clear q)
        have nc : Hid (Gr w wn) := Below.trans HC.out hb
        clear HC HO1 hg hw hb
        have HC := nc
        have HO1 := Lib.hid ho
        clear nc ho
        try (clear HO2 HD12; have HO2 := n2; clear n2)
        try (have HD12 := Lib.hid (far_sym p2.out); clear p2)
        try (clear HO3 HD13; have HO3 := n3; clear n3)
        try (have HD13 := Lib.hid (far_sym p3.out); clear p3)
        obtain ⟨wc, hwc⟩ : ∃ x, x = wn := ⟨_, rfl⟩
        subst hwc
        try simp only [Act.put, List.setIfInBounds_toArray, List.set_cons_zero, List.set_cons_succ]
        refine wpG_one (i := 18) rfl (by kernel_rfl) (by rfl) ?_
        go_simp
        have hb : Gr wc (wc.alloc (.cells #[] 3)) := (Below.refl _ _).alloc (Nat.le_refl _) _
        refine ⟨hb.mono (Below.size HC.out), ?_⟩
        have n2 := Lib.hid (ownsRow_mono (own_new wc [] 3 0 1 rfl (Nat.zero_le _)) (Below.size HC.out))
        try have p1 := Lib.hid (far_new HO1.out)
        try have n1 := Lib.hid (ownsRow_below HO1.out hb)
        try have p3 := Lib.hid (far_new HO3.out)
        try have n3 := Lib.hid (ownsRow_below HO3.out hb)
        have nc := Lib.hid (Gr.trans HC.out hb)
        generalize wc.alloc (.cells #[] 3) = wn at *
        clear HC hb
        have HC := nc
        clear nc
        have HO2 := n2
        clear n2
        try (clear HO1; have HO1 := n1; clear n1)
        try (have HD12 := p1; clear p1)
        try (clear HO3; have HO3 := n3; clear n3)
        try (have HD23 := Lib.hid (far_sym p3.out); clear p3)
        obtain ⟨wc, hwc⟩ : ∃ x, x = wn := ⟨_, rfl⟩
        subst hwc
        try simp only [Act.put, List.setIfInBounds_toArray, List.set_cons_zero, List.set_cons_succ]
        refine wpG_one (i := 23) rfl (by kernel_rfl) (by rfl) ?_
        refine wp_append_where _ (some 26) (.tmp 21) (.tmp 25) 41 rfl w.heap.size 3 i0 _ 1 8 Try.underlying41 hi0 hz0 hz1 hz2 rfl (by decide) _ _ _ rfl HO2.out _ a2 _ rfl (Rd.below HU.out HC.out) HONU.out HB2.out (by decide) (Below.size HC.out) rfl ?_
        intro v' wn ho hg hw
        have hb := grown_below HO2.out (Below.size HC.out) hg
        refine ⟨hb, ?_⟩
        obtain ⟨A2, C2, rfl, _, _⟩ := (own_rd ho).shape
        try (have q := far_grow HO1.out HD12.out hg hw; have n1 := Lib.hid q.1; have p1 := Lib.hid q.2; clear q)
        try (have q := far_grow HO3.out (far_sym HD23.out) hg hw; have n3 := Lib.hid q.1; have p3 := Lib.hid q.2; clear q)
        have nc : Hid (Gr w wn) := Below.trans HC.out hb
        clear HC HO2 hg hw hb
        have HC := nc
        have HO2 := Lib.hid ho
        clear nc ho
        try (clear HO1 HD12; have HO1 := n1; clear n1)
        try (have HD12 := p1; clear p1)
        try (clear HO3 HD23; have HO3 := n3; clear n3)
        try (have HD23 := Lib.hid (far_sym p3.out); clear p3)
        obtain ⟨wc, hwc⟩ : ∃ x, x = wn := ⟨_, rfl⟩
        subst hwc
        try simp only [Act.put, List.setIfInBounds_toArray, List.set_cons_zero, List.set_cons_succ]
        refine wpG_one (i := 29) rfl (by kernel_rfl) (by rfl) ?_
        refine wp_append_where _ (some 32) (.tmp 27) (.tmp 31) 51 rfl w.heap.size 54 i1 _ 2 16 Try.underlying51 hi1 hy0 hy1 hy2 rfl (by decide) _ _ _ rfl HO3.out _ a3 _ rfl (Rd.below HE.out HC.out) HONE.out HB3.out (by decide) (Below.size HC.out) rfl ?_
        intro v' wn ho hg hw
        have hb := grown_below HO3.out (Below.size HC.out) hg
        refine ⟨hb, ?_⟩
        obtain ⟨A3, C3, rfl, _, _⟩ := (own_rd ho).shape
        try (have q := far_grow HO1.out HD13.out hg hw; have n1 := Lib.hid q.1; have p1 := Lib.hid q.2; clear q)
        try (have q := far_grow HO2.out HD23.out hg hw; have n2 := Lib.hid q.1; have p2 := Lib.hid q.2; clear q)
        have nc : Hid (Gr w wn) := Below.trans HC.out hb
        clear HC HO3 hg hw hb
        have HC := nc
        have HO3 := Lib.hid ho
        clear nc ho
        try (clear HO1 HD13; have HO1 := n1; clear n1)
        try (have HD13 := p1; clear p1)
        try (clear HO2 HD23; have HO2 := n2; clear n2)
        try (have HD23 := p2; clear p2)
        obtain ⟨wc, hwc⟩ : ∃ x, x = wn := ⟨_, rfl⟩
        subst hwc
        try simp only [Act.put, List.setIfInBounds_toArray, List.set_cons_zero, List.set_cons_succ]
        -- 30: slot 33
        refine wpG_take (preBelow (w.heap.size)) (i := 30) (v := ?_) (by kernel_rfl) (some 33) (by kernel_rfl) rfl (by kernel_rfl) (by kernel_rfl) (by kernel_rfl) (fun _ _ _ h => h) (by rfl) (fun w' hw' => ?_) rfl ?_
        rotate_left
        · try (have hxx := cells6 (HD.out.gr (Below.trans HC.out hw')).doc.row; rw [HX.out.1, HX.out.2.1, HX.out.2.2] at hxx; obtain ⟨k0, k1, k2, k3, k4, k5⟩ := hxx)
          try have hbu := builtD6 S.low S.high S.quiet A1 A2 A3 (0 + a1) (0 + a2) (0 + a3) C1 C2 C3
          go_simp
          with_reducible rfl
        simp only [Act.put, List.setIfInBounds_toArray, List.set_cons_zero, List.set_cons_succ]
        refine wpG_one (i := 31) rfl (by kernel_rfl) (by rfl) ?_
        go_simp
        have hb : Gr wc (wc.alloc (.cells #[.int .i64 S.low, .int .i64 S.high, .int .i64 S.quiet, .slice A1 a1 C1, .slice A2 a2 C2, .slice A3 a3 C3] 75)) := (Below.refl _ _).alloc (Nat.le_refl _) _
        refine ⟨hb.mono (Below.size HC.out), ?_⟩
        have hrow := heap_alloc_last wc (.cells #[.int .i64 S.low, .int .i64 S.high, .int .i64 S.quiet, .slice A1 a1 C1, .slice A2 a2 C2, .slice A3 a3 C3] 75)
        have hsz := World.size_alloc wc (.cells #[.int .i64 S.low, .int .i64 S.high, .int .i64 S.quiet, .slice A1 a1 C1, .slice A2 a2 C2, .slice A3 a3 C3] 75)
        have HF := Lib.hid (forked HC.out (by simpa [ints] using HO1.out) (by simpa [ints] using HO2.out) (by simpa using HO3.out) HA.out.1 HA.out.2.1 HA.out.2.2 hb hrow)
        clear hb hrow hsz
        try simp only [Act.put, List.setIfInBounds_toArray, List.set_cons_zero, List.set_cons_succ]
        -- 32: slot 2
        refine wpG_take (preBelow (w.heap.size)) (i := 32) (v := ?_) (by kernel_rfl) (some 2) (by kernel_rfl) rfl (by kernel_rfl) (by kernel_rfl) (by kernel_rfl) (fun _ _ _ h => h) (by rfl) (fun w' hw' => ?_) rfl ?_
        rotate_left
        · try (have hxx := cells6 (HD.out.gr (Below.trans HC.out hw')).doc.row; rw [HX.out.1, HX.out.2.1, HX.out.2.2] at hxx; obtain ⟨k0, k1, k2, k3, k4, k5⟩ := hxx)
          try have hbu := builtD6 S.low S.high S.quiet A1 A2 A3 (0 + a1) (0 + a2) (0 + a3) C1 C2 C3
          go_simp
          with_reducible rfl
        simp only [Act.put, List.setIfInBounds_toArray, List.set_cons_zero, List.set_cons_succ]
        refine wpG_done (by kernel_rfl) ?_ _
        go_wp2_with fail
        go_ret
        exact ⟨_, _, _, _, rfl, HF.out⟩
      · go_simp
        have hb : Gr wc (wc.alloc (.cells #[] 3)) := (Below.refl _ _).alloc (Nat.le_refl _) _
        refine ⟨hb.mono (Below.size HC.out), ?_⟩
        have n2 := Lib.hid (ownsRow_mono (own_new wc [] 3 0 1 rfl (Nat.zero_le _)) (Below.size HC.out))
        try have p1 := Lib.hid (far_new HO1.out)
        try have n1 := Lib.hid (ownsRow_below HO1.out hb)
        try have p3 := Lib.hid (far_new HO3.out)
        try have n3 := Lib.hid (ownsRow_below HO3.out hb)
        have nc := Lib.hid (Gr.trans HC.out hb)
        generalize wc.alloc (.cells #[] 3) = wn at *
        clear HC hb
        have HC := nc
        clear nc
        have HO2 := n2
        clear n2
        try (clear HO1; have HO1 := n1; clear n1)
        try (have HD12 := p1; clear p1)
        try (clear HO3; have HO3 := n3; clear n3)
        try (have HD23 := Lib.hid (far_sym p3.out); clear p3)
        obtain ⟨wc, hwc⟩ : ∃ x, x = wn := ⟨_, rfl⟩
        subst hwc
        try simp only [Act.put, List.setIfInBounds_toArray, List.set_cons_zero, List.set_cons_succ]
        refine wpG_one (i := 17) rfl (by kernel_rfl) (by rfl) ?_
        refine wp_append_where _ (some 20) (.tmp 15) (.tmp 19) 41 rfl w.heap.size 3 i0 _ 1 8 Try.underlying41 hi0 hz0 hz1 hz2 rfl (by decide) _ _ _ rfl HO1.out _ a1 _ rfl (Rd.below HR.out HC.out) HONR.out HB1.out (by decide) (Below.size HC.out) rfl ?_
        intro v' wn ho hg hw
        have hb := grown_below HO1.out (Below.size HC.out) hg
        refine ⟨hb, ?_⟩
        obtain ⟨A1, C1, rfl, _, _⟩ := (own_rd ho).shape
        try (have q := far_grow HO2.out (far_sym HD12.out) hg hw; have n2 := Lib.hid q.1; have p2 := Lib.hid q.2; clear q)
        try (have q := far_grow HO3.out (far_sym HD13.out) hg hw; have n3 := Lib.hid q.1; have p3 := Lib.hid q.2; clear q)
        have nc : Hid (Gr w wn) := Below.trans HC.out hb
        clear HC HO1 hg hw hb
        have HC := nc
        have HO1 := Lib.hid ho
        clear nc ho
        try (clear HO2 HD12; have HO2 := n2; clear n2)
        try (have HD12 := Lib.hid (far_sym p2.out); clear p2)
        try (clear HO3 HD13; have HO3 := n3; clear n3)
        try (have HD13 := Lib.hid (far_sym p3.out); clear p3)
        obtain ⟨wc, hwc⟩ : ∃ x, x = wn := ⟨_, rfl⟩
        subst hwc
        try simp only [Act.put, List.setIfInBounds_toArray, List.set_cons_zero, List.set_cons_succ]
        refine wpG_one (i := 23) rfl (by kernel_rfl) (by rfl) ?_
        refine wp_append_where _ (some 26) (.tmp 21) (.tmp 25) 41 rfl w.heap.size 3 i0 _ 1 8 Try.underlying41 hi0 hz0 hz1 hz2 rfl (by decide) _ _ _ rfl HO2.out _ a2 _ rfl (Rd.below HU.out HC.out) HONU.out HB2.out (by decide) (Below.size HC.out) rfl ?_
        intro v' wn ho hg hw
        have hb := grown_below HO2.out (Below.size HC.out) hg
        refine ⟨hb, ?_⟩
        obtain ⟨A2, C2, rfl, _, _⟩ := (own_rd ho).shape
        try (have q := far_grow HO1.out HD12.out hg hw; have n1 := Lib.hid q.1; have p1 := Lib.hid q.2; clear q)
        try (have q := far_grow HO3.out (far_sym HD23.out) hg hw; have n3 := Lib.hid q.1; have p3 := Lib.hid q.2; clear q)
        have nc : Hid (Gr w wn) := Below.trans HC.out hb
        clear HC HO2 hg hw hb
        have HC := nc
        have HO2 := Lib.hid ho
        clear nc ho
        try (clear HO1 HD12; have HO1 := n1; clear n1)
        try (have HD12 := p1; clear p1)
        try (clear HO3 HD23; have HO3 := n3; clear n3)
        try (have HD23 := Lib.hid (far_sym p3.out); clear p3)
        obtain ⟨wc, hwc⟩ : ∃ x, x = wn := ⟨_, rfl⟩
        subst hwc
        try simp only [Act.put, List.setIfInBounds_toArray, List.set_cons_zero, List.set_cons_succ]
        refine wpG_one (i := 29) rfl (by kernel_rfl) (by rfl) ?_
        refine wp_append_where _ (some 32) (.tmp 27) (.tmp 31) 51 rfl w.heap.size 54 i1 _ 2 16 Try.underlying51 hi1 hy0 hy1 hy2 rfl (by decide) _ _ _ rfl HO3.out _ a3 _ rfl (Rd.below HE.out HC.out) HONE.out HB3.out (by decide) (Below.size HC.out) rfl ?_
        intro v' wn ho hg hw
        have hb := grown_below HO3.out (Below.size HC.out) hg
        refine ⟨hb, ?_⟩
        obtain ⟨A3, C3, rfl, _, _⟩ := (own_rd ho).shape
        try (have q := far_grow HO1.out HD13.out hg hw; have n1 := Lib.hid q.1; have p1 := Lib.hid q.2; clear q)
        try (have q := far_grow HO2.out HD23.out hg hw; have n2 := Lib.hid q.1; have p2 := Lib.hid q.2; clear q)
        have nc : Hid (Gr w wn) := Below.trans HC.out hb
        clear HC HO3 hg hw hb
        have HC := nc
        have HO3 := Lib.hid ho
        clear nc ho
        try (clear HO1 HD13; have HO1 := n1; clear n1)
        try (have HD13 := p1; clear p1)
        try (clear HO2 HD23; have HO2 := n2; clear n2)
        try (have HD23 := p2; clear p2)
        obtain ⟨wc, hwc⟩ : ∃ x, x = wn := ⟨_, rfl⟩
        subst hwc
        try simp only [Act.put, List.setIfInBounds_toArray, List.set_cons_zero, List.set_cons_succ]
        -- 30: slot 33
        refine wpG_take (preBelow (w.heap.size)) (i := 30) (v := ?_) (by kernel_rfl) (some 33) (by kernel_rfl) rfl (by kernel_rfl) (by kernel_rfl) (by kernel_rfl) (fun _ _ _ h => h) (by rfl) (fun w' hw' => ?_) rfl ?_
        rotate_left
        · try (have hxx := cells6 (HD.out.gr (Below.trans HC.out hw')).doc.row; rw [HX.out.1, HX.out.2.1, HX.out.2.2] at hxx; obtain ⟨k0, k1, k2, k3, k4, k5⟩ := hxx)
          try have hbu := builtD6 S.low S.high S.quiet A1 A2 A3 (0 + a1) (0 + a2) (0 + a3) C1 C2 C3
          go_simp
          with_reducible rfl
        simp only [Act.put, List.setIfInBounds_toArray, List.set_cons_zero, List.set_cons_succ]
        refine wpG_one (i := 31) rfl (by kernel_rfl) (by rfl) ?_
        go_simp
        have hb : Gr wc (wc.alloc (.cells #[.int .i64 S.low, .int .i64 S.high, .int .i64 S.quiet, .slice A1 a1 C1, .slice A2 a2 C2, .slice A3 a3 C3] 75)) := (Below.refl _ _).alloc (Nat.le_refl _) _
        refine ⟨hb.mono (Below.size HC.out), ?_⟩
        have hrow := heap_alloc_last wc (.cells #[.int .i64 S.low, .int .i64 S.high, .int .i64 S.quiet, .slice A1 a1 C1, .slice A2 a2 C2, .slice A3 a3 C3] 75)
        have hsz := World.size_alloc wc (.cells #[.int .i64 S.low, .int .i64 S.high, .int .i64 S.quiet, .slice A1 a1 C1, .slice A2 a2 C2, .slice A3 a3 C3] 75)
        have HF := Lib.hid (forked HC.out (by simpa [ints] using HO1.out) (by simpa [ints] using HO2.out) (by simpa using HO3.out) HA.out.1 HA.out.2.1 HA.out.2.2 hb hrow)
        clear hb hrow hsz
        try simp only [Act.put, List.setIfInBounds_toArray, List.set_cons_zero, List.set_cons_succ]
        -- 32: slot 2
        refine wpG_take (preBelow (w.heap.size)) (i := 32) (v := ?_) (by kernel_rfl) (some 2) (by kernel_rfl) rfl (by kernel_rfl) (by kernel_rfl) (by kernel_rfl) (fun _ _ _ h => h) (by rfl) (fun w' hw' => ?_) rfl ?_
        rotate_left
        · try (have hxx := cells6 (HD.out.gr (Below.trans HC.out hw')).doc.row; rw [HX.out.1, HX.out.2.1, HX.out.2.2] at hxx; obtain ⟨k0, k1, k2, k3, k4, k5⟩ := hxx)
          try have hbu := builtD6 S.low S.high S.quiet A1 A2 A3 (0 + a1) (0 + a2) (0 + a3) C1 C2 C3
          go_simp
          with_reducible rfl
        simp only [Act.put, List.setIfInBounds_toArray, List.set_cons_zero, List.set_cons_succ]
        refine wpG_done (by kernel_rfl) ?_ _
        go_wp2_with fail
        go_ret
        exact ⟨_, _, _, _, rfl, HF.out⟩
  · go_simp
    have hb : Gr wc (wc.alloc (.cells #[] 3)) := (Below.refl _ _).alloc (Nat.le_refl _) _
    refine ⟨hb.mono (Below.size HC.out), ?_⟩
    have n2 := Lib.hid (ownsRow_mono (own_new wc [] 3 0 1 rfl (Nat.zero_le _)) (Below.size HC.out))
    try have p1 := Lib.hid (far_new HO1.out)
    try have n1 := Lib.hid (ownsRow_below HO1.out hb)
    try have p3 := Lib.hid (far_new HO3.out)
    try have n3 := Lib.hid (ownsRow_below HO3.out hb)
    have nc := Lib.hid (Gr.trans HC.out hb)
    generalize wc.alloc (.cells #[] 3) = wn at *
    clear HC hb
    have HC := nc
    clear nc
    have HO2 := n2
    clear n2
    try (clear HO1; have HO1 := n1; clear n1)
    try (have HD12 := p1; clear p1)
    try (clear HO3; have HO3 := n3; clear n3)
    try (have HD23 := Lib.hid (far_sym p3.out); clear p3)
    obtain ⟨wc, hwc⟩ : ∃ x, x = wn := ⟨_, rfl⟩
    subst hwc
    try simp only [Act.put, List.setIfInBounds_toArray, List.set_cons_zero, List.set_cons_succ]
    refine wpG_two (i := 12) (j := 24) rfl rfl (by kernel_rfl) (by rfl) (by rfl) ?_ ?_
    · go_simp
      have hb : Gr wc (wc.alloc (.cells #[] 3)) := (Below.refl _ _).alloc (Nat.le_refl _) _
      refine ⟨hb.mono (Below.size HC.out), ?_⟩
      have n1 := Lib.hid (ownsRow_mono (own_new wc [] 3 0 1 rfl (Nat.zero_le _)) (Below.size HC.out))
      try have p2 := Lib.hid (far_new HO2.out)
      try have n2 := Lib.hid (ownsRow_below HO2.out hb)
      try have p3 := Lib.hid (far_new HO3.out)
      try have n3 := Lib.hid (ownsRow_below HO3.out hb)
      have nc := Lib.hid (Gr.trans HC.out hb)
      generalize wc.alloc (.cells #[] 3) = wn at *
      clear HC hb
      have HC := nc
      clear nc
      have HO1 := n1
      clear n1
      try (clear HO2; have HO2 := n2; clear n2)
      try (have HD12 := Lib.hid (far_sym p2.out); clear p2)
      try (clear HO3; have HO3 := n3; clear n3)
      try (have HD13 := Lib.hid (far_sym p3.out); clear p3)
      obtain ⟨wc, hwc⟩ : ∃ x, x = wn := ⟨_, rfl⟩
      subst hwc
      try simp only [Act.put, List.setIfInBounds_toArray, List.set_cons_zero, List.set_cons_succ]
      refine wpG_two (i := 17) (j := 24) rfl rfl (by kernel_rfl) (by rfl) (by rfl) ?_ ?_
      · refine wp_append_where _ (some 20) (.tmp 15) (.tmp 19) 41 rfl w.heap.size 3 i0 _ 1 8 Try.underlying41 hi0 hz0 hz1 hz2 rfl (by decide) _ _ _ rfl HO1.out _ a1 _ rfl (Rd.below HR.out HC.out) HONR.out HB1.out (by decide) (Below.size HC.out) rfl ?_
        intro v' wn ho hg hw
        have hb := grown_below HO1.out (Below.size HC.out) hg
        refine ⟨hb, ?_⟩
        obtain ⟨A1, C1, rfl, _, _⟩ := (own_rd ho).shape
        try (have q := far_grow HO2.out (far_sym HD12.out) hg hw; have n2 := Lib.hid q.1; have p2 := Lib.hid q.2; clear q)
        try (have q := far_grow HO3.out (far_sym HD13.out) hg hw; have n3 := Lib.hid q.1; have p3 := Lib.hid q.2; clear q)
        have nc : Hid (Gr w wn) := Below.trans HC.out hb
        clear HC HO1 hg hw hb
        have HC := nc
        have HO1 := Lib.hid ho
        clear nc ho
        try (clear HO2 HD12; have HO2 := n2; clear n2)
        try (have HD12 := Lib.hid (far_sym p2.out); clear p2)
        try (clear HO3 HD13; have HO3 := n3; clear n3)
        try (have HD13 := Lib.hid (far_sym p3.out); clear p3)
        obtain ⟨wc, hwc⟩ : ∃ x, x = wn := ⟨_, rfl⟩
        subst hwc
        try simp only [Act.put, List.setIfInBounds_toArray, List.set_cons_zero, List.set_cons_succ]
        refine wpG_two (i := 23) (j := 24) rfl rfl (by kernel_rfl) (by rfl) (by rfl) ?_ ?_
        · refine wp_append_where _ (some 26) (.tmp 21) (.tmp 25) 41 rfl w.heap.size 3 i0 _ 1 8 Try.underlying41 hi0 hz0 hz1 hz2 rfl (by decide) _ _ _ rfl HO2.out _ a2 _ rfl (Rd.below HU.out HC.out) HONU.out HB2.out (by decide) (Below.size HC.out) rfl ?_
          intro v' wn ho hg hw
          have hb := grown_below HO2.out (Below.size HC.out) hg
          refine ⟨hb, ?_⟩
          obtain ⟨A2, C2, rfl, _, _⟩ := (own_rd ho).shape
          try (have q := far_grow HO1.out HD12.out hg hw; have n1 := Lib.hid q.1; have p1 := Lib.hid q.2; clear q)
          try (have q := far_grow HO3.out (far_sym HD23.out) hg hw; have n3 := Lib.hid q.1; have p3 := Lib.hid q.2; clear q)
          have nc : Hid (Gr w wn) := Below.trans HC.out hb
          clear HC HO2 hg hw hb
          have HC := nc
          have HO2 := Lib.hid ho
          clear nc ho
          try (clear HO1 HD12; have HO1 := n1; clear n1)
          try (have HD12 := p1; clear p1)
          try (clear HO3 HD23; have HO3 := n3; clear n3)
          try (have HD23 := Lib.hid (far_sym p3.out); clear p3)
          obtain ⟨wc, hwc⟩ : ∃ x, x = wn := ⟨_, rfl⟩
          subst hwc
          try simp only [Act.put, List.setIfInBounds_toArray, List.set_cons_zero, List.set_cons_succ]
          refine wpG_one (i := 24) rfl (by kernel_rfl) (by rfl) ?_
          go_simp
          have hb : Gr wc (wc.alloc (.cells #[] 54)) := (Below.refl _ _).alloc (Nat.le_refl _) _
          refine ⟨hb.mono (Below.size HC.out), ?_⟩
          have n3 := Lib.hid (ownsRow_mono (own_new wc [] 54 0 2 rfl (Nat.zero_le _)) (Below.size HC.out))
          try have p1 := Lib.hid (far_new HO1.out)
          try have n1 := Lib.hid (ownsRow_below HO1.out hb)
          try have p2 := Lib.hid (far_new HO2.out)
          try have n2 := Lib.hid (ownsRow_below HO2.out hb)
          have nc := Lib.hid (Gr.trans HC.out hb)
          generalize wc.alloc (.cells #[] 54) = wn at *
          clear HC hb
          have HC := nc
          clear nc
          have HO3 := n3
          clear n3
          try (clear HO1; have HO1 := n1; clear n1)
          try (have HD13 := p1; clear p1)
          try (clear HO2; have HO2 := n2; clear n2)
          try (have HD23 := p2; clear p2)
          obtain ⟨wc, hwc⟩ : ∃ x, x = wn := ⟨_, rfl⟩
          subst hwc
          try simp only [Act.put, List.setIfInBounds_toArray, List.set_cons_zero, List.set_cons_succ]
          refine wpG_one (i := 29) rfl (by kernel_rfl) (by rfl) ?_
          refine wp_append_where _ (some 32) (.tmp 27) (.tmp 31) 51 rfl w.heap.size 54 i1 _ 2 16 Try.underlying51 hi1 hy0 hy1 hy2 rfl (by decide) _ _ _ rfl HO3.out _ a3 _ rfl (Rd.below HE.out HC.out) HONE.out HB3.out (by decide) (Below.size HC.out) rfl ?_
          intro v' wn ho hg hw
          have hb := grown_below HO3.out (Below.size HC.out) hg
          refine ⟨hb, ?_⟩
          obtain ⟨A3, C3, rfl, _, _⟩ := (own_rd ho).shape
          try (have q := far_grow HO1.out HD13.out hg hw; have n1 := Lib.hid q.1; have p1 := Lib.hid q.2; clear q)
          try (have q := far_grow HO2.out HD23.out hg hw; have n2 := Lib.hid q.1; have p2 := Lib.hid q.2; clear q)
          have nc : Hid (Gr w wn) := Below.trans HC.out hb
          clear HC HO3 hg hw hb
          have HC := nc
          have HO3 := Lib.hid ho
          clear nc ho
          try (clear HO1 HD13; have HO1 := n1; clear n1)
          try (have HD13 := p1; clear p1)
          try (clear HO2 HD23; have HO2 := n2; clear n2)
          try (have HD23 := p2; clear p2)
          obtain ⟨wc, hwc⟩ : ∃ x, x = wn := ⟨_, rfl⟩
          subst hwc
          try simp only [Act.put, List.setIfInBounds_toArray, List.set_cons_zero, List.set_cons_succ]
          -- 30: slot 33
          refine wpG_take (preBelow (w.heap.size)) (i := 30) (v := ?_) (by kernel_rfl) (some 33) (by kernel_rfl) rfl (by kernel_rfl) (by kernel_rfl) (by kernel_rfl) (fun _ _ _ h => h) (by rfl) (fun w' hw' => ?_) rfl ?_
          rotate_left
          · try (have hxx := cells6 (HD.out.gr (Below.trans HC.out hw')).doc.row; rw [HX.out.1, HX.out.2.1, HX.out.2.2] at hxx; obtain ⟨k0, k1, k2, k3, k4, k5⟩ := hxx)
            try have hbu := builtD6 S.low S.high S.quiet A1 A2 A3 (0 + a1) (0 + a2) (0 + a3) C1 C2 C3
            go_simp
            with_reducible rfl
          simp only [Act.put, List.setIfInBounds_toArray, List.set_cons_zero, List.set_cons_succ]
          refine wpG_one (i := 31) rfl (by kernel_rfl) (by rfl) ?_
          go_simp
          have hb : Gr wc (wc.alloc (.cells #[.int .i64 S.low, .int .i64 S.high, .int .i64 S.quiet, .slice A1 a1 C1, .slice A2 a2 C2, .slice A3 a3 C3] 75)) := (Below.refl _ _).alloc (Nat.le_refl _) _
          refine ⟨hb.mono (Below.size HC.out), ?_⟩
          have hrow := heap_alloc_last wc (.cells #[.int .i64 S.low, .int .i64 S.high, .int .i64 S.quiet, .slice A1 a1 C1, .slice A2 a2 C2, .slice A3 a3 C3] 75)
          have hsz := World.size_alloc wc (.cells #[.int .i64 S.low, .int .i64 S.high, .int .i64 S.quiet, .slice A1 a1 C1, .slice A2 a2 C2, .slice A3 a3 C3] 75)
          have HF := Lib.hid (forked HC.out (by simpa [ints] using HO1.out) (by simpa [ints] using HO2.out) (by simpa using HO3.out) HA.out.1 HA.out.2.1 HA.out.2.2 hb hrow)
          clear hb hrow hsz
          try simp only [Act.put, List.setIfInBounds_toArray, List.set_cons_zero, List.set_cons_succ]
          -- 32: slot 2
          refine wpG_take (preBelow (w.heap.size)) (i := 32) (v := ?_) (by kernel_rfl) (some 2) (by kernel_rfl) rfl (by kernel_rfl) (by kernel_rfl) (by kernel_rfl) (fun _ _ _ h => h) (by rfl) (fun w' hw' => ?_) rfl ?_
          rotate_left
          · try (have hxx := cells6 (HD.out.gr (Below.trans HC.out hw')).doc.row; rw [HX.out.1, HX.out.2.1, HX.out.2.2] at hxx; obtain ⟨k0, k1, k2, k3, k4, k5⟩ := hxx)
            try have hbu := builtD6 S.low S.high S.quiet A1 A2 A3 (0 + a1) (0 + a2) (0 + a3) C1 C2 C3
            go_simp
            with_reducible rfl
          simp only [Act.put, List.setIfInBounds_toArray, List.set_cons_zero, List.set_cons_succ]
          refine wpG_done (by kernel_rfl) ?_ _
          go_wp2_with fail
          go_ret
          exact ⟨_, _, _, _, rfl, HF.out⟩
        · go_simp
          have hb : Gr wc (wc.alloc (.cells #[] 54)) := (Below.refl _ _).alloc (Nat.le_refl _) _
          refine ⟨hb.mono (Below.size HC.out), ?_⟩
          have n3 := Lib.hid (ownsRow_mono (own_new wc [] 54 0 2 rfl (Nat.zero_le _)) (Below.size HC.out))
          try have p1 := Lib.hid (far_new HO1.out)
          try have n1 := Lib.hid (ownsRow_below HO1.out hb)
          try have p2 := Lib.hid (far_new HO2.out)
          try have n2 := Lib.hid (ownsRow_below HO2.out hb)
          have nc := Lib.hid (Gr.trans HC.out hb)
          generalize wc.alloc (.cells #[] 54) = wn at *
          clear HC hb
          have HC := nc
          clear nc
          have HO3 := n3
          clear n3
          try (clear HO1; have HO1 := n1; clear n1)
          try (have HD13 := p1; clear p1)
          try (clear HO2; have HO2 := n2; clear n2)
          try (have HD23 := p2; clear p2)
          obtain ⟨wc, hwc⟩ : ∃ x, x = wn := ⟨_, rfl⟩
          subst hwc
          try simp only [Act.put, List.setIfInBounds_toArray, List.set_cons_zero, List.set_cons_succ]
          refine wpG_one (i := 23) rfl (by kernel_rfl) (by rfl) ?_
          refine wp_append_where _ (some 26) (.tmp 21) (.tmp 25) 41 rfl w.heap.size 3 i0 _ 1 8 Try.underlying41 hi0 hz0 hz1 hz2 rfl (by decide) _ _ _ rfl HO2.out _ a2 _ rfl (Rd.below HU.out HC.out) HONU.out HB2.out (by decide) (Below.size HC.out) rfl ?_
          intro v' wn ho hg hw
          have hb := grown_below HO2.out (Below.size HC.out) hg
          refine ⟨hb, ?_⟩
          obtain ⟨A2, C2, rfl, _, _⟩ := (own_rd ho).shape
          try (have q := far_grow HO1.out HD12.out hg hw; have n1 := Lib.hid q.1; have p1 := Lib.hid q.2; clear q)
          try (have q := far_grow HO3.out (far_sym HD23.out) hg hw; have n3 := Lib.hid q.1; have p3 := Lib.hid q.2; clear q)
          have nc : Hid (Gr w wn) := Below.trans HC.out hb
          clear HC HO2 hg hw hb
          have HC := nc
          have HO2 := Lib.hid ho
          clear nc ho
          try (clear HO1 HD12; have HO1 := n1; clear n1)
          try (have HD12 := p1; clear p1)
          try (clear HO3 HD23; have HO3 := n3; clear n3)
          try (have HD23 := Lib.hid (far_sym p3.out); clear p3)
          obtain ⟨wc, hwc⟩ : ∃ x, x = wn := ⟨_, rfl⟩
          subst hwc
          try simp only [Act.put, List.setIfInBounds_toArray, List.set_cons_zero, List.set_cons_succ]
          refine wpG_one (i := 29) rfl (by kernel_rfl) (by rfl) ?_
          refine wp_append_where _ (some 32) (.tmp 27) (.tmp 31) 51 rfl w.heap.size 54 i1 _ 2 16 Try.underlying51 hi1 hy0 hy1 hy2 rfl (by decide) _ _ _ rfl HO3.out _ a3 _ rfl (Rd.below HE.out HC.out) HONE.out HB3.out (by decide) (Below.size HC.out) rfl ?_
          intro v' wn ho hg hw
          have hb := grown_below HO3.out (Below.size HC.out) hg
          refine ⟨hb, ?_⟩
          obtain ⟨A3, C3, rfl, _, _⟩ := (own_rd ho).shape
          try (have q := far_grow HO1.out HD13.out hg hw; have n1 := Lib.hid q.1; have p1 := Lib.hid q.2; clear q)
          try (have q := far_grow HO2.out HD23.out hg hw; have n2 := Lib.hid q.1; have p2 := Lib.hid q.2; clear q)
          have nc : Hid (Gr w wn) := Below.trans HC.out hb
          clear HC HO3 hg hw hb
          have HC := nc
          have HO3 := Lib.hid ho
          clear nc ho
          try (clear HO1 HD13; have HO1 := n1; clear n1)
          try (have HD13 := p1; clear p1)
          try (clear HO2 HD23; have HO2 := n2; clear n2)
          try (have HD23 := p2; clear p2)
          obtain ⟨wc, hwc⟩ : ∃ x, x = wn := ⟨_, rfl⟩
          subst hwc
          try simp only [Act.put, List.setIfInBounds_toArray, List.set_cons_zero, List.set_cons_succ]
          -- 30: slot 33
          refine wpG_take (preBelow (w.heap.size)) (i := 30) (v := ?_) (by kernel_rfl) (some 33) (by kernel_rfl) rfl (by kernel_rfl) (by kernel_rfl) (by kernel_rfl) (fun _ _ _ h => h) (by rfl) (fun w' hw' => ?_) rfl ?_
          rotate_left
          · try (have hxx := cells6 (HD.out.gr (Below.trans HC.out hw')).doc.row; rw [HX.out.1, HX.out.2.1, HX.out.2.2] at hxx; obtain ⟨k0, k1, k2, k3, k4, k5⟩ := hxx)
            try have hbu := builtD6 S.low S.high S.quiet A1 A2 A3 (0 + a1) (0 + a2) (0 + a3) C1 C2 C3
            go_simp
            with_reducible rfl
          simp only [Act.put, List.setIfInBounds_toArray, List.set_cons_zero, List.set_cons_succ]
          refine wpG_one (i := 31) rfl (by kernel_rfl) (by rfl) ?_
          go_simp
          have hb : Gr wc (wc.alloc (.cells #[.int .i64 S.low, .int .i64 S.high, .int .i64 S.quiet, .slice A1 a1 C1, .slice A2 a2 C2, .slice A3 a3 C3] 75)) := (Below.refl _ _).alloc (Nat.le_refl _) _
          refine ⟨hb.mono (Below.size HC.out), ?_⟩
          have hrow := heap_alloc_last wc (.cells #[.int .i64 S.low, .int .i64 S.high, .int .i64 S.quiet, .slice A1 a1 C1, .slice A2 a2 C2, .slice A3 a3 C3] 75)
          have hsz := World.size_alloc wc (.cells #[.int .i64 S.low, .int .i64 S.high, .int .i64 S.quiet, .slice A1 a1 C1, .slice A2 a2 C2, .slice A3 a3 C3] 75)
          have HF := Lib.hid (forked HC.out (by simpa [ints] using HO1.out) (by simpa [ints] using HO2.out) (by simpa using HO3.out) HA.out.1 HA.out.2.1 HA.out.2.2 hb hrow)
          clear hb hrow hsz
          try simp only [Act.put, List.setIfInBounds_toArray, List.set_cons_zero, List.set_cons_succ]
          -- 32: slot 2
          refine wpG_take (preBelow (w.heap.size)) (i := 32) (v := ?_) (by kernel_rfl) (some 2) (by kernel_rfl) rfl (by kernel_rfl) (by kernel_rfl) (by kernel_rfl) (fun _ _ _ h => h) (by rfl) (fun w' hw' => ?_) rfl ?_
          rotate_left
          · try (have hxx := cells6 (HD.out.gr (Below.trans HC.out hw')).doc.row; rw [HX.out.1, HX.out.2.1, HX.out.2.2] at hxx; obtain ⟨k0, k1, k2, k3, k4, k5⟩ := hxx)
            try have hbu := builtD6 S.low S.high S.quiet A1 A2 A3 (0 + a1) (0 + a2) (0 + a3) C1 C2 C3
            go_simp
            with_reducible rfl
          simp only [Act.put, List.setIfInBounds_toArray, List.set_cons_zero, List.set_cons_succ]
          refine wpG_done (by kernel_rfl) ?_ _
          go_wp2_with fail
          go_ret
          exact ⟨_, _, _, _, rfl, HF.out⟩
      · go_simp
        have hb : Gr wc (wc.alloc (.cells #[] 54)) := (Below.refl _ _).alloc (Nat.le_refl _) _
        refine ⟨hb.mono (Below.size HC.out), ?_⟩
        have n3 := Lib.hid (ownsRow_mono (own_new wc [] 54 0 2 rfl (Nat.zero_le _)) (Below.size HC.out))
        try have p1 := Lib.hid (far_new HO1.out)
        try have n1 := Lib.hid (ownsRow_below HO1.out hb)
        try have p2 := Lib.hid (far_new HO2.out)
        try have n2 := Lib.hid (ownsRow_below HO2.out hb)
        have nc := Lib.hid (Gr.trans HC.out hb)
        generalize wc.alloc (.cells #[] 54) = wn at *
        clear HC hb
        have HC := nc
        clear nc
        have HO3 := n3
        clear n3
        try (clear HO1; have HO1 := n1; clear n1)
        try (have HD13 := p1; clear p1)
        try (clear HO2; have HO2 := n2; clear n2)
        try (have HD23 := p2; clear p2)
        obtain ⟨wc, hwc⟩ : ∃ x, x = wn := ⟨_, rfl⟩
        subst hwc
        try simp only [Act.put, List.setIfInBounds_toArray, List.set_cons_zero, List.set_cons_succ]
        refine wpG_one (i := 17) rfl (by kernel_rfl) (by rfl) ?_
        refine wp_append_where _ (some 20) (.tmp 15) (.tmp 19) 41 rfl w.heap.size 3 i0 _ 1 8 Try.underlying41 hi0 hz0 hz1 hz2 rfl (by decide) _ _ _ rfl HO1.out _ a1 _ rfl (Rd.below HR.out HC.out) HONR.out HB1.out (by decide) (Below.size HC.out) rfl ?_
        intro v' wn ho hg hw
        have hb := grown_below HO1.out (Below.size HC.out) hg
        refine ⟨hb, ?_⟩
        obtain ⟨A1, C1, rfl, _, _⟩ := (own_rd ho).shape
        try (have q := far_grow HO2.out (far_sym HD12.out) hg hw; have n2 := Lib.hid q.1; have p2 := Lib.hid q.2; clear q)
        try (have q := far_grow HO3.out (far_sym HD13.out) hg hw; have n3 := Lib.hid q.1; have p3 := Lib.hid q.2; clear q)
        have nc : Hid (Gr w wn) := Below.trans HC.out hb
        clear HC HO1 hg hw hb
        have HC := nc
        have HO1 := Lib.hid ho
        clear nc ho
        try (clear HO2 HD12; have HO2 := n2; clear n2)
        try (have HD12 := Lib.hid (far_sym p2.out); clear p2)
        try (clear HO3 HD13; have HO3 := n3; clear n3)
        try (have HD13 := Lib.hid (far_sym p3.out); clear p3)
        obtain ⟨wc, hwc⟩ : ∃ x, x = wn := ⟨_, rfl⟩
        subst hwc
        try simp only [Act.put, List.setIfInBounds_toArray, List.set_cons_zero, List.set_cons_succ]
        refine wpG_one (i := 23) rfl (by kernel_rfl) (by rfl) ?_
        refine wp_append_where _ (some 26) (.tmp 21) (.tmp 25) 41 rfl w.heap.size 3 i0 _ 1 8 Try.underlying41 hi0 hz0 hz1 hz2 rfl (by decide) _ _ _ rfl HO2.out _ a2 _ rfl (Rd.below HU.out HC.out) HONU.out HB2.out (by decide) (Below.size HC.out) rfl ?_
        intro v' wn ho hg hw
        have hb := grown_below HO2.out (Below.size HC.out) hg
        refine ⟨hb, ?_⟩
        obtain ⟨A2, C2, rfl, _, _⟩ := (own_rd ho).shape
        try (have q := far_grow HO1.out HD12.out hg hw; have n1 := Lib.hid q.1; have p1 := Lib.hid q.2; clear q)
        try (have q := far_grow HO3.out (far_sym HD23.out) hg hw; have n3 := Lib.hid q.1; have p3 := Lib.hid q.2; clear q)
        have nc : Hid (Gr w wn) := Below.trans HC.out hb
        clear HC HO2 hg hw hb
        have HC := nc
        have HO2 := Lib.hid ho
        clear nc ho
        try (clear HO1 HD12; have HO1 := n1; clear n1)
        try (have HD12 := p1; clear p1)
        try (clear HO3 HD23; have HO3 := n3; clear n3)
        try (have HD23 := Lib.hid (far_sym p3.out); clear p3)
        obtain ⟨wc, hwc⟩ : ∃ x, x = wn := ⟨_, rfl⟩
        subst hwc
        try simp only [Act.put, List.setIfInBounds_toArray, List.set_cons_zero, List.set_cons_succ]
        refine wpG_one (i := 29) rfl (by kernel_rfl) (by rfl) ?_
        refine wp_append_where _ (some 32) (.tmp 27) (.tmp 31) 51 rfl w.heap.size 54 i1 _ 2 16 Try.underlying51 hi1 hy0 hy1 hy2 rfl (by decide) _ _ _ rfl HO3.out _ a3 _ rfl (Rd.below HE.out HC.out) HONE.out HB3.out (by decide) (Below.size HC.out) rfl ?_
        intro v' wn ho hg hw
        have hb := grown_below HO3.out (Below.size HC.out) hg
        refine ⟨hb, ?_⟩
        obtain ⟨A3, C3, rfl, _, _⟩ := (own_rd ho).shape
        try (have q := far_grow HO1.out HD13.out hg hw; have n1 := Lib.hid q.1; have p1 := Lib.hid q.2; clear q)
        try (have q := far_grow HO2.out HD23.out hg hw; have n2 := Lib.hid q.1; have p2 := Lib.hid q.2; clear q)
        have nc : Hid (Gr w wn) := Below.trans HC.out hb
        clear HC HO3 hg hw hb
        have HC := nc
        have HO3 := Lib.hid ho
        clear nc ho
        try (clear HO1 HD13; have HO1 := n1; clear n1)
        try (have HD13 := p1; clear p1)
        try (clear HO2 HD23; have HO2 := n2; clear n2)
        try (have HD23 := p2; clear p2)
        obtain ⟨wc, hwc⟩ : ∃ x, x = wn := ⟨_, rfl⟩
        subst hwc
        try simp only [Act.put, List.setIfInBounds_toArray, List.set_cons_zero, List.set_cons_succ]
        -- 30: slot 33
        refine wpG_take (preBelow (w.heap.size)) (i := 30) (v := ?_) (by kernel_rfl) (some 33) (by kernel_rfl) rfl (by kernel_rfl) (by kernel_rfl) (by kernel_rfl) (fun _ _ _ h => h) (by rfl) (fun w' hw' => ?_) rfl ?_
        rotate_left
        · try (have hxx := cells6 (HD.out.gr (Below.trans HC.out hw')).doc.row; rw [HX.out.1, HX.out.2.1, HX.out.2.2] at hxx; obtain ⟨k0, k1, k2, k3, k4, k5⟩ := hxx)
          try have hbu := builtD6 S.low S.high S.quiet A1 A2 A3 (0 + a1) (0 + a2) (0 + a3) C1 C2 C3
          go_simp
          with_reducible rfl
        simp only [Act.put, List.setIfInBounds_toArray, List.set_cons_zero, List.set_cons_succ]
        refine wpG_one (i := 31) rfl (by kernel_rfl) (by rfl) ?_
        go_simp
        have hb : Gr wc (wc.alloc (.cells #[.int .i64 S.low, .int .i64 S.high, .int .i64 S.quiet, .slice A1 a1 C1, .slice A2 a2 C2, .slice A3 a3 C3] 75)) := (Below.refl _ _).alloc (Nat.le_refl _) _
        refine ⟨hb.mono (Below.size HC.out), ?_⟩
        have hrow := heap_alloc_last wc (.cells #[.int .i64 S.low, .int .i64 S.high, .int .i64 S.quiet, .slice A1 a1 C1, .slice A2 a2 C2, .slice A3 a3 C3] 75)
        have hsz := World.size_alloc wc (.cells #[.int .i64 S.low, .int .i64 S.high, .int .i64 S.quiet, .slice A1 a1 C1, .slice A2 a2 C2, .slice A3 a3 C3] 75)
        have HF := Lib.hid (forked HC.out (by simpa [ints] using HO1.out) (by simpa [ints] using HO2.out) (by simpa using HO3.out) HA.out.1 HA.out.2.1 HA.out.2.2 hb hrow)
        clear hb hrow hsz
        try simp only [Act.put, List.setIfInBounds_toArray, List.set_cons_zero, List.set_cons_succ]
        -- 32: slot 2
        refine wpG_take (preBelow (w.heap.size)) (i := 32) (v := ?_) (by kernel_rfl) (some 2) (by kernel_rfl) rfl (by kernel_rfl) (by kernel_rfl) (by kernel_rfl) (fun _ _ _ h => h) (by rfl) (fun w' hw' => ?_) rfl ?_
        rotate_left
        · try (have hxx := cells6 (HD.out.gr (Below.trans HC.out hw')).doc.row; rw [HX.out.1, HX.out.2.1, HX.out.2.2] at hxx; obtain ⟨k0, k1, k2, k3, k4, k5⟩ := hxx)
          try have hbu := builtD6 S.low S.high S.quiet A1 A2 A3 (0 + a1) (0 + a2) (0 + a3) C1 C2 C3
          go_simp
          with_reducible rfl
        simp only [Act.put, List.setIfInBounds_toArray, List.set_cons_zero, List.set_cons_succ]
        refine wpG_done (by kernel_rfl) ?_ _
        go_wp2_with fail
        go_ret
        exact ⟨_, _, _, _, rfl, HF.out⟩
    · go_simp
      have hb : Gr wc (wc.alloc (.cells #[] 54)) := (Below.refl _ _).alloc (Nat.le_refl _) _
      refine ⟨hb.mono (Below.size HC.out), ?_⟩
      have n3 := Lib.hid (ownsRow_mono (own_new wc [] 54 0 2 rfl (Nat.zero_le _)) (Below.size HC.out))
      try have p1 := Lib.hid (far_new HO1.out)
      try have n1 := Lib.hid (ownsRow_below HO1.out hb)
      try have p2 := Lib.hid (far_new HO2.out)
      try have n2 := Lib.hid (ownsRow_below HO2.out hb)
      have nc := Lib.hid (Gr.trans HC.out hb)
      generalize wc.alloc (.cells #[] 54) = wn at *
      clear HC hb
      have HC := nc
      clear nc
      have HO3 := n3
      clear n3
      try (clear HO1; have HO1 := n1; clear n1)
      try (have HD13 := p1; clear p1)
      try (clear HO2; have HO2 := n2; clear n2)
      try (have HD23 := p2; clear p2)
      obtain ⟨wc, hwc⟩ : ∃ x, x = wn := ⟨_, rfl⟩
      subst hwc
      try simp only [Act.put, List.setIfInBounds_toArray, List.set_cons_zero, List.set_cons_succ]
      refine wpG_one (i := 12) rfl (by kernel_rfl) (by rfl) ?_
      go_simp
      have hb : Gr wc (wc.alloc (.cells #[] 3)) := (Below.refl _ _).alloc (Nat.le_refl _) _
      refine ⟨hb.mono (Below.size HC.out), ?_⟩
      have n1 := Lib.hid (ownsRow_mono (own_new wc [] 3 0 1 rfl (Nat.zero_le _)) (Below.size HC.out))
      try have p2 := Lib.hid (far_new HO2.out)
      try have n2 := Lib.hid (ownsRow_below HO2.out hb)
      try have p3 := Lib.hid (far_new HO3.out)
      try have n3 := Lib.hid (ownsRow_below HO3.out hb)
      have nc := Lib.hid (Gr.trans HC.out hb)
      generalize wc.alloc (.cells #[] 3) = wn at *
      clear HC hb
      have HC := nc
      clear nc
      have HO1 := n1
      clear n1
      try (clear HO2; have HO2 := n2; clear n2)
      try (have HD12 := Lib.hid (far_sym p2.out); clear p2)
      try (clear HO3; have HO3 := n3; clear n3)
      try (have HD13 := Lib.hid (far_sym p3.out); clear p3)
      obtain ⟨wc, hwc⟩ : ∃ x, x = wn := ⟨_, rfl⟩
      subst hwc
      try simp only [Act.put, List.setIfInBounds_toArray, List.set_cons_zero, List.set_cons_succ]
      refine wpG_one (i := 17) rfl (by kernel_rfl) (by rfl) ?_
      refine wp_append_where _ (some 20) (.tmp 15) (.tmp 19) 41 rfl w.heap.size 3 i0 _ 1 8 Try.underlying41 hi0 hz0 hz1 hz2 rfl (by decide) _ _ _ rfl HO1.out _ a1 _ rfl (Rd.below HR.out HC.out) HONR.out HB1.out (by decide) (Below.size HC.out) rfl ?_
      intro v' wn ho hg hw
      have hb := grown_below HO1.out (Below.size HC.out) hg
      refine ⟨hb, ?_⟩
      obtain ⟨A1, C1, rfl, _, _⟩ := (own_rd ho).shape
      try (have q := far_grow HO2.out (far_sym HD12.out) hg hw; have n2 := Lib.hid q.1; have p2 := Lib.hid q.2; clear q)
      try (have q := far_grow HO3.out (far_sym HD13.out) hg hw; have n3 := Lib.hid q.1; have p3 := Lib.hid q.2; clear q)
      have nc : Hid (Gr w wn) := Below.trans HC.out hb
      clear HC HO1 hg hw hb
      have HC := nc
      have HO1 := Lib.hid ho
      clear nc ho
      try (clear HO2 HD12; have HO2 := n2; clear n2)
      try (have HD12 := Lib.hid (far_sym p2.out); clear p2)
      try (clear HO3 HD13; have HO3 := n3; clear n3)
      try (have HD13 := Lib.hid (far_sym p3.out); clear p3)
      obtain ⟨wc, hwc⟩ : ∃ x, x = wn := ⟨_, rfl⟩
      subst hwc
      try simp only [Act.put, List.setIfInBounds_toArray, List.set_cons_zero, List.set_cons_succ]
      refine wpG_one (i := 23) rfl (by kernel_rfl) (by rfl) ?_
      refine wp_append_where _ (some 26) (.tmp 21) (.tmp 25) 41 rfl w.heap.size 3 i0 _ 1 8 Try.underlying41 hi0 hz0 hz1 hz2 rfl (by decide) _ _ _ rfl HO2.out _ a2 _ rfl (Rd.below HU.out HC.out) HONU.out HB2.out (by decide) (Below.size HC.out) rfl ?_
      intro v' wn ho hg hw
      have hb := grown_below HO2.out (Below.size HC.out) hg
      refine ⟨hb, ?_⟩
      obtain ⟨A2, C2, rfl, _, _⟩ := (own_rd ho).shape
      try (have q := far_grow HO1.out HD12.out hg hw; have n1 := Lib.hid q.1; have p1 := Lib.hid q.2; clear q)
      try (have q := far_grow HO3.out (far_sym HD23.out) hg hw; have n3 := Lib.hid q.1; have p3 := Lib.hid q.2; clear q)
      have nc : Hid (Gr w wn) := Below.trans HC.out hb
      clear HC HO2 hg hw hb
      have HC := nc
      have HO2 := Lib.hid ho
      clear nc ho
      try (clear HO1 HD12; have HO1 := n1; clear n1)
      try (have HD12 := p1; clear p1)
      try (clear HO3 HD23; have HO3 := n3; clear n3)
      try (have HD23 := Lib.hid (far_sym p3.out); clear p3)
      obtain ⟨wc, hwc⟩ : ∃ x, x = wn := ⟨_, rfl⟩
      subst hwc
      try simp only [Act.put, List.setIfInBounds_toArray, List.set_cons_zero, List.set_cons_succ]
      refine wpG_one (i := 29) rfl (by kernel_rfl) (by rfl) ?_
      refine wp_append_where _ (some 32) (.tmp 27) (.tmp 31) 51 rfl w.heap.size 54 i1 _ 2 16 Try.underlying51 hi1 hy0 hy1 hy2 rfl (by decide) _ _ _ rfl HO3.out _ a3 _ rfl (Rd.below HE.out HC.out) HONE.out HB3.out (by decide) (Below.size HC.out) rfl ?_
      intro v' wn ho hg hw
      have hb := grown_below HO3.out (Below.size HC.out) hg
      refine ⟨hb, ?_⟩
      obtain ⟨A3, C3, rfl, _, _⟩ := (own_rd ho).shape
      try (have q := far_grow HO1.out HD13.out hg hw; have n1 := Lib.hid q.1; have p1 := Lib.hid q.2; clear q)
      try (have q := far_grow HO2.out HD23.out hg hw; have n2 := Lib.hid q.1; have p2 := Lib.hid q.2; clear q)
      have nc : Hid (Gr w wn) := Below.trans HC.out hb
      clear HC HO3 hg hw hb
      have HC := nc
      have HO3 := Lib.hid ho
      clear nc ho
      try (clear HO1 HD13; have HO1 := n1; clear n1)
      try (have HD13 := p1; clear p1)
      try (clear HO2 HD23; have HO2 := n2; clear n2)
      try (have HD23 := p2; clear p2)
      obtain ⟨wc, hwc⟩ : ∃ x, x = wn := ⟨_, rfl⟩
      subst hwc
      try simp only [Act.put, List.setIfInBounds_toArray, List.set_cons_zero, List.set_cons_succ]
      -- 30: slot 33
      refine wpG_take (preBelow (w.heap.size)) (i := 30) (v := ?_) (by kernel_rfl) (some 33) (by kernel_rfl) rfl (by kernel_rfl) (by kernel_rfl) (by kernel_rfl) (fun _ _ _ h => h) (by rfl) (fun w' hw' => ?_) rfl ?_
      rotate_left
      · try (have hxx := cells6 (HD.out.gr (Below.trans HC.out hw')).doc.row; rw [HX.out.1, HX.out.2.1, HX.out.2.2] at hxx; obtain ⟨k0, k1, k2, k3, k4, k5⟩ := hxx)
        try have hbu := builtD6 S.low S.high S.quiet A1 A2 A3 (0 + a1) (0 + a2) (0 + a3) C1 C2 C3
        go_simp
        with_reducible rfl
      simp only [Act.put, List.setIfInBounds_toArray, List.set_cons_zero, List.set_cons_succ]
      refine wpG_one (i := 31) rfl (by kernel_rfl) (by rfl) ?_
      go_simp
      have hb : Gr wc (wc.alloc (.cells #[.int .i64 S.low, .int .i64 S.high, .int .i64 S.quiet, .slice A1 a1 C1, .slice A2 a2 C2, .slice A3 a3 C3] 75)) := (Below.refl _ _).alloc (Nat.le_refl _) _
      refine ⟨hb.mono (Below.size HC.out), ?_⟩
      have hrow := heap_alloc_last wc (.cells #[.int .i64 S.low, .int .i64 S.high, .int .i64 S.quiet, .slice A1 a1 C1, .slice A2 a2 C2, .slice A3 a3 C3] 75)
      have hsz := World.size_alloc wc (.cells #[.int .i64 S.low, .int .i64 S.high, .int .i64 S.quiet, .slice A1 a1 C1, .slice A2 a2 C2, .slice A3 a3 C3] 75)
      have HF := Lib.hid (forked HC.out (by simpa [ints] using HO1.out) (by simpa [ints] using HO2.out) (by simpa using HO3.out) HA.out.1 HA.out.2.1 HA.out.2.2 hb hrow)
      clear hb hrow hsz
      try simp only [Act.put, List.setIfInBounds_toArray, List.set_cons_zero, List.set_cons_succ]
      -- 32: slot 2
      refine wpG_take (preBelow (w.heap.size)) (i := 32) (v := ?_) (by kernel_rfl) (some 2) (by kernel_rfl) rfl (by kernel_rfl) (by kernel_rfl) (by kernel_rfl) (fun _ _ _ h => h) (by rfl) (fun w' hw' => ?_) rfl ?_
      rotate_left
      · try (have hxx := cells6 (HD.out.gr (Below.trans HC.out hw')).doc.row; rw [HX.out.1, HX.out.2.1, HX.out.2.2] at hxx; obtain ⟨k0, k1, k2, k3, k4, k5⟩ := hxx)
        try have hbu := builtD6 S.low S.high S.quiet A1 A2 A3 (0 + a1) (0 + a2) (0 + a3) C1 C2 C3
        go_simp
        with_reducible rfl
      simp only [Act.put, List.setIfInBounds_toArray, List.set_cons_zero, List.set_cons_succ]
      refine wpG_done (by kernel_rfl) ?_ _
      go_wp2_with fail
      go_ret
      exact ⟨_, _, _, _, rfl, HF.out⟩
  · go_simp
    have hb : Gr wc (wc.alloc (.cells #[] 54)) := (Below.refl _ _).alloc (Nat.le_refl _) _
    refine ⟨hb.mono (Below.size HC.out), ?_⟩
    have n3 := Lib.hid (ownsRow_mono (own_new wc [] 54 0 2 rfl (Nat.zero_le _)) (Below.size HC.out))
    try have p1 := Lib.hid (far_new HO1.out)
    try have n1 := Lib.hid (ownsRow_below HO1.out hb)
    try have p2 := Lib.hid (far_new HO2.out)
    try have n2 := Lib.hid (ownsRow_below HO2.out hb)
    have nc := Lib.hid (Gr.trans HC.out hb)
    generalize wc.alloc (.cells #[] 54) = wn at *
    clear HC hb
    have HC := nc
    clear nc
    have HO3 := n3
    clear n3
    try (clear HO1; have HO1 := n1; clear n1)
    try (have HD13 := p1; clear p1)
    try (clear HO2; have HO2 := n2; clear n2)
    try (have HD23 := p2; clear p2)
    obtain ⟨wc, hwc⟩ : ∃ x, x = wn := ⟨_, rfl⟩
    subst hwc
    try simp only [Act.put, List.setIfInBounds_toArray, List.set_cons_zero, List.set_cons_succ]
    refine wpG_two (i := 12) (j := 18) rfl rfl (by kernel_rfl) (by rfl) (by rfl) ?_ ?_
    · go_simp
      have hb : Gr wc (wc.alloc (.cells #[] 3)) := (Below.refl _ _).alloc (Nat.le_refl _) _
      refine ⟨hb.mono (Below.size HC.out), ?_⟩
      have n1 := Lib.hid (ownsRow_mono (own_new wc [] 3 0 1 rfl (Nat.zero_le _)) (Below.size HC.out))
      try have p2 := Lib.hid (far_new HO2.out)
      try have n2 := Lib.hid (ownsRow_below HO2.out hb)
      try have p3 := Lib.hid (far_new HO3.out)
      try have n3 := Lib.hid (ownsRow_below HO3.out hb)
      have nc := Lib.hid (Gr.trans HC.out hb)
      generalize wc.alloc (.cells #[] 3) = wn at *
      clear HC hb
      have HC := nc
      clear nc
      have HO1 := n1
      clear n1
      try (clear HO2; have HO2 := n2; clear n2)
      try (have HD12 := Lib.hid (far_sym p2.out); clear p2)
      try (clear HO3; have HO3 := n3; clear n3)
      try (have HD13 := Lib.hid (far_sym p3.out); clear p3)
      obtain ⟨wc, hwc⟩ : ∃ x, x = wn := ⟨_, rfl⟩
      subst hwc
      try simp only [Act.put, List.setIfInBounds_toArray, List.set_cons_zero, List.set_cons_succ]
      refine wpG_two (i := 17) (j := 18) rfl rfl (by kernel_rfl) (by rfl) (by rfl) ?_ ?_
      · refine wp_append_where _ (some 20) (.tmp 15) (.tmp 19) 41 rfl w.heap.size 3 i0 _ 1 8 Try.underlying41 hi0 hz0 hz1 hz2 rfl (by decide) _ _ _ rfl HO1.out _ a1 _ rfl (Rd.below HR.out HC.out) HONR.out HB1.out (by decide) (Below.size HC.out) rfl ?_
        intro v' wn ho hg hw
        have hb := grown_below HO1.out (Below.size HC.out) hg
        refine ⟨hb, ?_⟩
        obtain ⟨A1, C1, rfl, _, _⟩ := (own_rd ho).shape
        try (have q := far_grow HO2.out (far_sym HD12.out) hg hw; have n2 := Lib.hid q.1; have p2 := Lib.hid q.2; clear q)
        try (have q := far_grow HO3.out (far_sym HD13.out) hg hw; have n3 := Lib.hid q.1; have p3 := Lib.hid q.2; clear q)
        have nc : Hid (Gr w wn) := Below.trans HC.out hb
        clear HC HO1 hg hw hb
        have HC := nc
        have HO1 := Lib.hid ho
        clear nc ho
        try (clear HO2 HD12; have HO2 := n2; clear n2)
        try (have HD12 := Lib.hid (far_sym p2.out); clear p2)
        try (clear HO3 HD13; have HO3 := n3; clear n3)
        try (have HD13 := Lib.hid (far_sym p3.out); clear p3)
        obtain ⟨wc, hwc⟩ : ∃ x, x = wn := ⟨_, rfl⟩
        subst hwc
        try simp only [Act.put, List.setIfInBounds_toArray, List.set_cons_zero, List.set_cons_succ]
        refine wpG_one (i := 18) rfl (by kernel_rfl) (by rfl) ?_
        go_simp
        have hb : Gr wc (wc.alloc (.cells #[] 3)) := (Below.refl _ _).alloc (Nat.le_refl _) _
        refine ⟨hb.mono (Below.size HC.out), ?_⟩
        have n2 := Lib.hid (ownsRow_mono (own_new wc [] 3 0 1 rfl (Nat.zero_le _)) (Below.size HC.out))
        try have p1 := Lib.hid (far_new HO1.out)
        try have n1 := Lib.hid (ownsRow_below HO1.out hb)
        try have p3 := Lib.hid (far_new HO3.out)
        try have n3 := Lib.hid (ownsRow_below HO3.out hb)
        have nc := Lib.hid (Gr.trans HC.out hb)
        generalize wc.alloc (.cells #[] 3) = wn at *
        clear HC hb
        have HC := nc
        clear nc
        have HO2 := n2
        clear n2
        try (clear HO1; have HO1 := n1; clear n1)
        try (have HD12 := p1; clear p1)
        try (clear HO3; have HO3 := n3; clear n3)
        try (have HD23 := Lib.hid (far_sym p3.out); clear p3)
        obtain ⟨wc, hwc⟩ : ∃ x, x = wn := ⟨_, rfl⟩
        subst hwc
        try simp only [Act.put, List.setIfInBounds_toArray, List.set_cons_zero, List.set_cons_succ]
        refine wpG_one (i := 23) rfl (by kernel_rfl) (by rfl) ?_
        refine wp_append_where _ (some 26) (.tmp 21) (.tmp 25) 41 rfl w.heap.size 3 i0 _ 1 8 Try.underlying41 hi0 hz0 hz1 hz2 rfl (by decide) _ _ _ rfl HO2.out _ a2 _ rfl (Rd.below HU.out HC.out) HONU.out HB2.out (by decide) (Below.size HC.out) rfl ?_
        intro v' wn ho hg hw
        have hb := grown_below HO2.out (Below.size HC.out) hg
        refine ⟨hb, ?_⟩
        obtain ⟨A2, C2, rfl, _, _⟩ := (own_rd ho).shape
        try (have q := far_grow HO1.out HD12.out hg hw; have n1 := Lib.hid q.1; have p1 := Lib.hid q.2; clear q)
        try (have q := far_grow HO3.out (far_sym HD23.out) hg hw; have n3 := Lib.hid q.1; have p3 := Lib.hid q.2; clear q)
        have nc : Hid (Gr w wn) := Below.trans HC.out hb
        clear HC HO2 hg hw hb
        have HC := nc
        have HO2 := Lib.hid ho
        clear nc ho
        try (clear HO1 HD12; have HO1 := n1; clear n1)
        try (have HD12 := p1; clear p1)
        try (clear HO3 HD23; have HO3 := n3; clear n3)
        try (have HD23 := Lib.hid (far_sym p3.out); clear p3)
        obtain ⟨wc, hwc⟩ : ∃ x, x = wn := ⟨_, rfl⟩
        subst hwc
        try simp only [Act.put, List.setIfInBounds_toArray, List.set_cons_zero, List.set_cons_succ]
        refine wpG_one (i := 29) rfl (by kernel_rfl) (by rfl) ?_
        refine wp_append_where _ (some 32) (.tmp 27) (.tmp 31) 51 rfl w.heap.size 54 i1 _ 2 16 Try.underlying51 hi1 hy0 hy1 hy2 rfl (by decide) _ _ _ rfl HO3.out _ a3 _ rfl (Rd.below HE.out HC.out) HONE.out HB3.out (by decide) (Below.size HC.out) rfl ?_
        intro v' wn ho hg hw
        have hb := grown_below HO3.out (Below.size HC.out) hg
        refine ⟨hb, ?_⟩
        obtain ⟨A3, C3, rfl, _, _⟩ := (own_rd ho).shape
        try (have q := far_grow HO1.out HD13.out hg hw; have n1 := Lib.hid q.1; have p1 := Lib.hid q.2; clear q)
        try (have q := far_grow HO2.out HD23.out hg hw; have n2 := Lib.hid q.1; have p2 := Lib.hid q.2; clear q)
        have nc : Hid (Gr w wn) := Below.trans HC.out hb
        clear HC HO3 hg hw hb
        have HC := nc
        have HO3 := Lib.hid ho
        clear nc ho
        try (clear HO1 HD13; have HO1 := n1; clear n1)
        try (have HD13 := p1; clear p1)
        try (clear HO2 HD23; have HO2 := n2; clear n2)
        try (have HD23 := p2; clear p2)
        obtain ⟨wc, hwc⟩ : ∃ x, x = wn := ⟨_, rfl⟩
        subst hwc
        try simp only [Act.put, List.setIfInBounds_toArray, List.set_cons_zero, List.set_cons_succ]
        -- 30: slot 33
        refine wpG_take (preBelow (w.heap.size)) (i := 30) (v := ?_) (by kernel_rfl) (some 33) (by kernel_rfl) rfl (by kernel_rfl) (by kernel_rfl) (by kernel_rfl) (fun _ _ _ h => h) (by rfl) (fun w' hw' => ?_) rfl ?_
        rotate_left
        · try (have hxx := cells6 (HD.out.gr (Below.trans HC.out hw')).doc.row; rw [HX.out.1, HX.out.2.1, HX.out.2.2] at hxx; obtain ⟨k0, k1, k2, k3, k4, k5⟩ := hxx)
          try have hbu := builtD6 S.low S.high S.quiet A1 A2 A3 (0 + a1) (0 + a2) (0 + a3) C1 C2 C3
          go_simp
          with_reducible rfl
        simp only [Act.put, List.setIfInBounds_toArray, List.set_cons_zero, List.set_cons_succ]
        refine wpG_one (i := 31) rfl (by kernel_rfl) (by rfl) ?_
        go_simp
        have hb : Gr wc (wc.alloc (.cells #[.int .i64 S.low, .int .i64 S.high, .int .i64 S.quiet, .slice A1 a1 C1, .slice A2 a2 C2, .slice A3 a3 C3] 75)) := (Below.refl _ _).alloc (Nat.le_refl _) _
        refine ⟨hb.mono (Below.size HC.out), ?_⟩
        have hrow := heap_alloc_last wc (.cells #[.int .i64 S.low, .int .i64 S.high, .int .i64 S.quiet, .slice A1 a1 C1, .slice A2 a2 C2, .slice A3 a3 C3] 75)
        have hsz := World.size_alloc wc (.cells #[.int .i64 S.low, .int .i64 S.high, .int .i64 S.quiet, .slice A1 a1 C1, .slice A2 a2 C2, .slice A3 a3 C3] 75)
        have HF := Lib.hid (forked HC.out (by simpa [ints] using HO1.out) (by simpa [ints] using HO2.out) (by simpa using HO3.out) HA.out.1 HA.out.2.1 HA.out.2.2 hb hrow)
        clear hb hrow hsz
        try simp only [Act.put, List.setIfInBounds_toArray, List.set_cons_zero, List.set_cons_succ]
        -- 32: slot 2
        refine wpG_take (preBelow (w.heap.size)) (i := 32) (v := ?_) (by kernel_rfl) (some 2) (by kernel_rfl) rfl (by kernel_rfl) (by kernel_rfl) (by kernel_rfl) (fun _ _ _ h => h) (by rfl) (fun w' hw' => ?_) rfl ?_
        rotate_left
        · try (have hxx := cells6 (HD.out.gr (Below.trans HC.out hw')).doc.row; rw [HX.out.1, HX.out.2.1, HX.out.2.2] at hxx; obtain ⟨k0, k1, k2, k3, k4, k5⟩ := hxx)
          try have hbu := builtD6 S.low S.high S.quiet A1 A2 A3 (0 + a1) (0 + a2) (0 + a3) C1 C2 C3
          go_simp
          with_reducible rfl
        simp only [Act.put, List.setIfInBounds_toArray, List.set_cons_zero, List.set_cons_succ]
        refine wpG_done (by kernel_rfl) ?_ _
        go_wp2_with fail
        go_ret
        exact ⟨_, _, _, _, rfl, HF.out⟩
      · go_simp
        have hb : Gr wc (wc.alloc (.cells #[] 3)) := (Below.refl _ _).alloc (Nat.le_refl _) _
        refine ⟨hb.mono (Below.size HC.out), ?_⟩
        have n2 := Lib.hid (ownsRow_mono (own_new wc [] 3 0 1 rfl (Nat.zero_le _)) (Below.size HC.out))
        try have p1 := Lib.hid (far_new HO1.out)
        try have n1 := Lib.hid (ownsRow_below HO1.out hb)
        try have p3 := Lib.hid (far_new HO3.out)
        try have n3 := Lib.hid (ownsRow_below HO3.out hb)
        have nc := Lib.hid (Gr.trans HC.out hb)
        generalize wc.alloc (.cells #[] 3) = wn at *
        clear HC hb
        have HC := nc
        clear nc
        have HO2 := n2
        clear n2
        try (clear HO1; have HO1 := n1; clear n1)
        try (have HD12 := p1; clear p1)
        try (clear HO3; have HO3 := n3; clear n3)
        try (have HD23 := Lib.hid (far_sym p3.out); clear p3)
        obtain ⟨wc, hwc⟩ : ∃ x, x = wn := ⟨_, rfl⟩
        subst hwc
        try simp only [Act.put, List.setIfInBounds_toArray, List.set_cons_zero, List.set_cons_succ]
        refine wpG_one (i := 17) rfl (by kernel_rfl) (by rfl) ?_
        refine wp_append_where _ (some 20) (.tmp 15) (.tmp 19) 41 rfl w.heap.size 3 i0 _ 1 8 Try.underlying41 hi0 hz0 hz1 hz2 rfl (by decide) _ _ _ rfl HO1.out _ a1 _ rfl (Rd.below HR.out HC.out) HONR.out HB1.out (by decide) (Below.size HC.out) rfl ?_
        intro v' wn ho hg hw
        have hb := grown_below HO1.out (Below.size HC.out) hg
        refine ⟨hb, ?_⟩
        obtain ⟨A1, C1, rfl, _, _⟩ := (own_rd ho).shape
        try (have q := far_grow HO2.out (far_sym HD12.out) hg hw; have n2 := Lib.hid q.1; have p2 := Lib.hid q.2; clear q)
        try (have q := far_grow HO3.out (far_sym HD13.out) hg hw; have n3 := Lib.hid q.1; have p3 := Lib.hid q.2; clear q)
        have nc : Hid (Gr w wn) := Below.trans HC.out hb
        clear HC HO1 hg hw hb
        have HC := nc
        have HO1 := Lib.hid ho
        clear nc ho
        try (clear HO2 HD12; have HO2 := n2; clear n2)
        try (have HD12 := Lib.hid (far_sym p2.out); clear p2)
        try (clear HO3 HD13; have HO3 := n3; clear n3)
        try (have HD13 := Lib.hid (far_sym p3.out); clear p3)
        obtain ⟨wc, hwc⟩ : ∃ x, x = wn := ⟨_, rfl⟩
        subst hwc
        try simp only [Act.put, List.setIfInBounds_toArray, List.set_cons_zero, List.set_cons_succ]
        refine wpG_one (i := 23) rfl (by kernel_rfl) (by rfl) ?_
        refine wp_append_where _ (some 26) (.tmp 21) (.tmp 25) 41 rfl w.heap.size 3 i0 _ 1 8 Try.underlying41 hi0 hz0 hz1 hz2 rfl (by decide) _ _ _ rfl HO2.out _ a2 _ rfl (Rd.below HU.out HC.out) HONU.out HB2.out (by decide) (Below.size HC.out) rfl ?_
        intro v' wn ho hg hw
        have hb := grown_below HO2.out (Below.size HC.out) hg
        refine ⟨hb, ?_⟩
        obtain ⟨A2, C2, rfl, _, _⟩ := (own_rd ho).shape
        try (have q := far_grow HO1.out HD12.out hg hw; have n1 := Lib.hid q.1; have p1 := Lib.hid q.2; clear q)
        try (have q := far_grow HO3.out (far_sym HD23.out) hg hw; have n3 := Lib.hid q.1; have p3 := Lib.hid q.2; clear q)
        have nc : Hid (Gr w wn) := Below.trans HC.out hb
        clear HC HO2 hg hw hb
        have HC := nc
        have HO2 := Lib.hid ho
        clear nc ho
        try (clear HO1 HD12; have HO1 := n1; clear n1)
        try (have HD12 := p1; clear p1)
        try (clear HO3 HD23; have HO3 := n3; clear n3)
        try (have HD23 := Lib.hid (far_sym p3.out); clear p3)
        obtain ⟨wc, hwc⟩ : ∃ x, x = wn := ⟨_, rfl⟩
        subst hwc
        try simp only [Act.put, List.setIfInBounds_toArray, List.set_cons_zero, List.set_cons_succ]
        refine wpG_one (i := 29) rfl (by kernel_rfl) (by rfl) ?_
        refine wp_append_where _ (some 32) (.tmp 27) (.tmp 31) 51 rfl w.heap.size 54 i1 _ 2 16 Try.underlying51 hi1 hy0 hy1 hy2 rfl (by decide) _ _ _ rfl HO3.out _ a3 _ rfl (Rd.below HE.out HC.out) HONE.out HB3.out (by decide) (Below.size HC.out) rfl ?_
        intro v' wn ho hg hw
        have hb := grown_below HO3.out (Below.size HC.out) hg
        refine ⟨hb, ?_⟩
        obtain ⟨A3, C3, rfl, _, _⟩ := (own_rd ho).shape
        try (have q := far_grow HO1.out HD13.out hg hw; have n1 := Lib.hid q.1; have p1 := Lib.hid q.2; clear q)
        try (have q := far_grow HO2.out HD23.out hg hw; have n2 := Lib.hid q.1; have p2 := Lib.hid q.2; clear q)
        have nc : Hid (Gr w wn) := Below.trans HC.out hb
        clear HC HO3 hg hw hb
        have HC := nc
        have HO3 := Lib.hid ho
        clear nc ho
        try (clear HO1 HD13; have HO1 := n1; clear n1)
        try (have HD13 := p1; clear p1)
        try (clear HO2 HD23; have HO2 := n2; clear n2)
        try (have HD23 := p2; clear p2)
        obtain ⟨wc, hwc⟩ : ∃ x, x = wn := ⟨_, rfl⟩
        subst hwc
        try simp only [Act.put, List.setIfInBounds_toArray, List.set_cons_zero, List.set_cons_succ]
        -- 30: slot 33
        refine wpG_take (preBelow (w.heap.size)) (i := 30) (v := ?_) (by kernel_rfl) (some 33) (by kernel_rfl) rfl (by kernel_rfl) (by kernel_rfl) (by kernel_rfl) (fun _ _ _ h => h) (by rfl) (fun w' hw' => ?_) rfl ?_
        rotate_left
        · try (have hxx := cells6 (HD.out.gr (Below.trans HC.out hw')).doc.row; rw [HX.out.1, HX.out.2.1, HX.out.2.2] at hxx; obtain ⟨k0, k1, k2, k3, k4, k5⟩ := hxx)
          try have hbu := builtD6 S.low S.high S.quiet A1 A2 A3 (0 + a1) (0 + a2) (0 + a3) C1 C2 C3
          go_simp
          with_reducible rfl
        simp only [Act.put, List.setIfInBounds_toArray, List.set_cons_zero, List.set_cons_succ]
        refine wpG_one (i := 31) rfl (by kernel_rfl) (by rfl) ?_
        go_simp
        have hb : Gr wc (wc.alloc (.cells #[.int .i64 S.low, .int .i64 S.high, .int .i64 S.quiet, .slice A1 a1 C1, .slice A2 a2 C2, .slice A3 a3 C3] 75)) := (Below.refl _ _).alloc (Nat.le_refl _) _
        refine ⟨hb.mono (Below.size HC.out), ?_⟩
        have hrow := heap_alloc_last wc (.cells #[.int .i64 S.low, .int .i64 S.high, .int .i64 S.quiet, .slice A1 a1 C1, .slice A2 a2 C2, .slice A3 a3 C3] 75)
        have hsz := World.size_alloc wc (.cells #[.int .i64 S.low, .int .i64 S.high, .int .i64 S.quiet, .slice A1 a1 C1, .slice A2 a2 C2, .slice A3 a3 C3] 75)
        have HF := Lib.hid (forked HC.out (by simpa [ints] using HO1.out) (by simpa [ints] using HO2.out) (by simpa using HO3.out) HA.out.1 HA.out.2.1 HA.out.2.2 hb hrow)
        clear hb hrow hsz
        try simp only [Act.put, List.setIfInBounds_toArray, List.set_cons_zero, List.set_cons_succ]
        -- 32: slot 2
        refine wpG_take (preBelow (w.heap.size)) (i := 32) (v := ?_) (by kernel_rfl) (some 2) (by kernel_rfl) rfl (by kernel_rfl) (by kernel_rfl) (by kernel_rfl) (fun _ _ _ h => h) (by rfl) (fun w' hw' => ?_) rfl ?_
        rotate_left
        · try (have hxx := cells6 (HD.out.gr (Below.trans HC.out hw')).doc.row; rw [HX.out.1, HX.out.2.1, HX.out.2.2] at hxx; obtain ⟨k0, k1, k2, k3, k4, k5⟩ := hxx)
          try have hbu := builtD6 S.low S.high S.quiet A1 A2 A3 (0 + a1) (0 + a2) (0 + a3) C1 C2 C3
          go_simp
          with_reducible rfl
        simp only [Act.put, List.setIfInBounds_toArray, List.set_cons_zero, List.set_cons_succ]
        refine wpG_done (by kernel_rfl) ?_ _
        go_wp2_with fail
        go_ret
        exact ⟨_, _, _, _, rfl, HF.out⟩
    · go_simp
      have hb : Gr wc (wc.alloc (.cells #[] 3)) := (Below.refl _ _).alloc (Nat.le_refl _) _
      refine ⟨hb.mono (Below.size HC.out), ?_⟩
      have n2 := Lib.hid (ownsRow_mono (own_new wc [] 3 0 1 rfl (Nat.zero_le _)) (Below.size HC.out))
      try have p1 := Lib.hid (far_new HO1.out)
      try have n1 := Lib.hid (ownsRow_below HO1.out hb)
      try have p3 := Lib.hid (far_new HO3.out)
      try have n3 := Lib.hid (ownsRow_below HO3.out hb)
      have nc := Lib.hid (Gr.trans HC.out hb)
      generalize wc.alloc (.cells #[] 3) = wn at *
      clear HC hb
      have HC := nc
      clear nc
      have HO2 := n2
      clear n2
      try (clear HO1; have HO1 := n1; clear n1)
      try (have HD12 := p1; clear p1)
      try (clear HO3; have HO3 := n3; clear n3)
      try (have HD23 := Lib.hid (far_sym p3.out); clear p3)
      obtain ⟨wc, hwc⟩ : ∃ x, x = wn := ⟨_, rfl⟩
      subst hwc
      try simp only [Act.put, List.setIfInBounds_toArray, List.set_cons_zero, List.set_cons_succ]
      refine wpG_one (i := 12) rfl (by kernel_rfl) (by rfl) ?_
      go_simp
      have hb : Gr wc (wc.alloc (.cells #[] 3)) := (Below.refl _ _).alloc (Nat.le_refl _) _
      refine ⟨hb.mono (Below.size HC.out), ?_⟩
      have n1 := Lib.hid (ownsRow_mono (own_new wc [] 3 0 1 rfl (Nat.zero_le _)) (Below.size HC.out))
      try have p2 := Lib.hid (far_new HO2.out)
      try have n2 := Lib.hid (ownsRow_below HO2.out hb)
      try have p3 := Lib.hid (far_new HO3.out)
      try have n3 := Lib.hid (ownsRow_below HO3.out hb)
      have nc := Lib.hid (Gr.trans HC.out hb)
      generalize wc.alloc (.cells #[] 3) = wn at *
      clear HC hb
      have HC := nc
      clear nc
      have HO1 := n1
      clear n1
      try (clear HO2; have HO2 := n2; clear n2)
      try (have HD12 := Lib.hid (far_sym p2.out); clear p2)
      try (clear HO3; have HO3 := n3; clear n3)
      try (have HD13 := Lib.hid (far_sym p3.out); clear p3)
      obtain ⟨wc, hwc⟩ : ∃ x, x = wn := ⟨_, rfl⟩
      subst hwc
      try simp only [Act.put, List.setIfInBounds_toArray, List.set_cons_zero, List.set_cons_succ]
      refine wpG_one (i := 17) rfl (by kernel_rfl) (by rfl) ?_
      refine wp_append_where _ (some 20) (.tmp 15) (.tmp 19) 41 rfl w.heap.size 3 i0 _ 1 8 Try.underlying41 hi0 hz0 hz1 hz2 rfl (by decide) _ _ _ rfl HO1.out _ a1 _ rfl (Rd.below HR.out HC.out) HONR.out HB1.out (by decide) (Below.size HC.out) rfl ?_
      intro v' wn ho hg hw
      have hb := grown_below HO1.out (Below.size HC.out) hg
      refine ⟨hb, ?_⟩
      obtain ⟨A1, C1, rfl, _, _⟩ := (own_rd ho).shape
      try (have q := far_grow HO2.out (far_sym HD12.out) hg hw; have n2 := Lib.hid q.1; have p2 := Lib.hid q.2; clear q)
      try (have q := far_grow HO3.out (far_sym HD13.out) hg hw; have n3 := Lib.hid q.1; have p3 := Lib.hid q.2; clear q)
      have nc : Hid (Gr w wn) := Below.trans HC.out hb
      clear HC HO1 hg hw hb
      have HC := nc
      have HO1 := Lib.hid ho
      clear nc ho
      try (clear HO2 HD12; have HO2 := n2; clear n2)
      try (have HD12 := Lib.hid (far_sym p2.out); clear p2)
      try (clear HO3 HD13; have HO3 := n3; clear n3)
      try (have HD13 := Lib.hid (far_sym p3.out); clear p3)
      obtain ⟨wc, hwc⟩ : ∃ x, x = wn := ⟨_, rfl⟩
      subst hwc
      try simp only [Act.put, List.setIfInBounds_toArray, List.set_cons_zero, List.set_cons_succ]
      refine wpG_one (i := 23) rfl (by kernel_rfl) (by rfl) ?_
      refine wp_append_where _ (some 26) (.tmp 21) (.tmp 25) 41 rfl w.heap.size 3 i0 _ 1 8 Try.underlying41 hi0 hz0 hz1 hz2 rfl (by decide) _ _ _ rfl HO2.out _ a2 _ rfl (Rd.below HU.out HC.out) HONU.out HB2.out (by decide) (Below.size HC.out) rfl ?_
      intro v' wn ho hg hw
      have hb := grown_below HO2.out (Below.size HC.out) hg
      refine ⟨hb, ?_⟩
      obtain ⟨A2, C2, rfl, _, _⟩ := (own_rd ho).shape
      try (have q := far_grow HO1.out HD12.out hg hw; have n1 := Lib.hid q.1; have p1 := Lib.hid q.2; clear q)
      try (have q := far_grow HO3.out (far_sym HD23.out) hg hw; have n3 := Lib.hid q.1; have p3 := Lib.hid q.2; clear q)
      have nc : Hid (Gr w wn) := Below.trans HC.out hb
      clear HC HO2 hg hw hb
      have HC := nc
      have HO2 := Lib.hid ho
      clear nc ho
      try (clear HO1 HD12; have HO1 := n1; clear n1)
      try (have HD12 := p1; clear p1)
      try (clear HO3 HD23; have HO3 := n3; clear n3)
      try (have HD23 := Lib.hid (far_sym p3.out); clear p3)
      obtain ⟨wc, hwc⟩ : ∃ x, x = wn := ⟨_, rfl⟩
      subst hwc
      try simp only [Act.put, List.setIfInBounds_toArray, List.set_cons_zero, List.set_cons_succ]
      refine wpG_one (i := 29) rfl (by kernel_rfl) (by rfl) ?_
      refine wp_append_where _ (some 32) (.tmp 27) (.tmp 31) 51 rfl w.heap.size 54 i1 _ 2 16 Try.underlying51 hi1 hy0 hy1 hy2 rfl (by decide) _ _ _ rfl HO3.out _ a3 _ rfl (Rd.below HE.out HC.out) HONE.out HB3.out (by decide) (Below.size HC.out) rfl ?_
      intro v' wn ho hg hw
      have hb := grown_below HO3.out (Below.size HC.out) hg
      refine ⟨hb, ?_⟩
      obtain ⟨A3, C3, rfl, _, _⟩ := (own_rd ho).shape
      try (have q := far_grow HO1.out HD13.out hg hw; have n1 := Lib.hid q.1; have p1 := Lib.hid q.2; clear q)
      try (have q := far_grow HO2.out HD23.out hg hw; have n2 := Lib.hid q.1; have p2 := Lib.hid q.2; clear q)
      have nc : Hid (Gr w wn) := Below.trans HC.out hb
      clear HC HO3 hg hw hb
      have HC := nc
      have HO3 := Lib.hid ho
      clear nc ho
      try (clear HO1 HD13; have HO1 := n1; clear n1)
      try (have HD13 := p1; clear p1)
      try (clear HO2 HD23; have HO2 := n2; clear n2)
      try (have HD23 := p2; clear p2)
      obtain ⟨wc, hwc⟩ : ∃ x, x = wn := ⟨_, rfl⟩
      subst hwc
      try simp only [Act.put, List.setIfInBounds_toArray, List.set_cons_zero, List.set_cons_succ]
      -- 30: slot 33
      refine wpG_take (preBelow (w.heap.size)) (i := 30) (v := ?_) (by kernel_rfl) (some 33) (by kernel_rfl) rfl (by kernel_rfl) (by kernel_rfl) (by kernel_rfl) (fun _ _ _ h => h) (by rfl) (fun w' hw' => ?_) rfl ?_
      rotate_left
      · try (have hxx := cells6 (HD.out.gr (Below.trans HC.out hw')).doc.row; rw [HX.out.1, HX.out.2.1, HX.out.2.2] at hxx; obtain ⟨k0, k1, k2, k3, k4, k5⟩ := hxx)
        try have hbu := builtD6 S.low S.high S.quiet A1 A2 A3 (0 + a1) (0 + a2) (0 + a3) C1 C2 C3
        go_simp
        with_reducible rfl
      simp only [Act.put, List.setIfInBounds_toArray, List.set_cons_zero, List.set_cons_succ]
      refine wpG_one (i := 31) rfl (by kernel_rfl) (by rfl) ?_
      go_simp
      have hb : Gr wc (wc.alloc (.cells #[.int .i64 S.low, .int .i64 S.high, .int .i64 S.quiet, .slice A1 a1 C1, .slice A2 a2 C2, .slice A3 a3 C3] 75)) := (Below.refl _ _).alloc (Nat.le_refl _) _
      refine ⟨hb.mono (Below.size HC.out), ?_⟩
      have hrow := heap_alloc_last wc (.cells #[.int .i64 S.low, .int .i64 S.high, .int .i64 S.quiet, .slice A1 a1 C1, .slice A2 a2 C2, .slice A3 a3 C3] 75)
      have hsz := World.size_alloc wc (.cells #[.int .i64 S.low, .int .i64 S.high, .int .i64 S.quiet, .slice A1 a1 C1, .slice A2 a2 C2, .slice A3 a3 C3] 75)
      have HF := Lib.hid (forked HC.out (by simpa [ints] using HO1.out) (by simpa [ints] using HO2.out) (by simpa using HO3.out) HA.out.1 HA.out.2.1 HA.out.2.2 hb hrow)
      clear hb hrow hsz
      try simp only [Act.put, List.setIfInBounds_toArray, List.set_cons_zero, List.set_cons_succ]
      -- 32: slot 2
      refine wpG_take (preBelow (w.heap.size)) (i := 32) (v := ?_) (by kernel_rfl) (some 2) (by kernel_rfl) rfl (by kernel_rfl) (by kernel_rfl) (by kernel_rfl) (fun _ _ _ h => h) (by rfl) (fun w' hw' => ?_) rfl ?_
      rotate_left
      · try (have hxx := cells6 (HD.out.gr (Below.trans HC.out hw')).doc.row; rw [HX.out.1, HX.out.2.1, HX.out.2.2] at hxx; obtain ⟨k0, k1, k2, k3, k4, k5⟩ := hxx)
        try have hbu := builtD6 S.low S.high S.quiet A1 A2 A3 (0 + a1) (0 + a2) (0 + a3) C1 C2 C3
        go_simp
        with_reducible rfl
      simp only [Act.put, List.setIfInBounds_toArray, List.set_cons_zero, List.set_cons_succ]
      refine wpG_done (by kernel_rfl) ?_ _
      go_wp2_with fail
      go_ret
      exact ⟨_, _, _, _, rfl, HF.out⟩
end Go.Proofs.Ytpafcabcnkmadaa.Id
