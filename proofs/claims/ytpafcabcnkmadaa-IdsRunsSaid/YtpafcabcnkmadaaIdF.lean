/-
  slices.AppendSeq, slices.Collect, ring.all: a row of one's own.
-/
import Derived.Test.YtpafcabcnkmadaaIdE
namespace Go.Proofs.Ytpafcabcnkmadaa.Id
open Go.RowKit Go.Shelf
set_option linter.unusedVariables false
set_option linter.unusedSimpArgs false
attribute [local go_sem] Oper.semAt_some

theorem infoR : (Try.prog.info? 54).map (fun i => (i.zero, i.size, i.bytes)) = some (some (.agg #[.int .i64 0, .int .i64 0]), 2, 16) := by kernel_rfl
theorem infoI : (Try.prog.info? 3).map (fun i => (i.zero, i.size, i.bytes)) = some (some (.int .i64 0), 1, 8) := by kernel_rfl
/-- Between two rounds. -/
structure RQ (w : World) (xs : List (Int × Int)) (W : World) : Prop where
  few : xs.length ≤ 131071
  low : Below w.heap.size w W
  lv : ∃ v, W.heap[w.heap.size]? = some (.cells #[v] 51 (0, 0)) ∧ W.ownsRow w.heap.size 54 2 v xs.length (flatR xs)
theorem RQ.turns (w : World) (B : Nat) (hB : w.heap.size ≤ B) (xs : List (Int × Int)) : Turns B (RQ w xs) := fun A l o o' h hl ho hc => by
  refine ⟨h.few, turns_below hB A l o o' h.low hl ho hc, ?_⟩
  obtain ⟨v, h1, h2⟩ := h.lv
  exact ⟨v, turns_block A l o o' h1 hl ho hc, turns_row A l o o' h2 hl ho hc⟩
theorem RQ.gr {w : World} {xs : List (Int × Int)} {A B : World} (h : RQ w xs A) (hq : Gr A B) : RQ w xs B := by
  refine ⟨h.few, h.low.trans (Below.mono hq h.low.size), ?_⟩
  obtain ⟨v, h1, h2⟩ := h.lv
  exact ⟨v, heap_gr hq h1, ownsRow_below h2 hq⟩
/-- What stands behind the round's assignments. -/
def MidR (w : World) (xs : List (Int × Int)) (x : Int × Int) (b : Act) (W : World) : Prop :=
  RQ w xs W ∧ xs.length < 131071 ∧ ∃ g, w.heap.size < g ∧ W.heap[g]? = some (.cells #[.int .i64 x.1, .int .i64 x.2] 54 (0, 0)) ∧
    ∃ t0 t1 t3 t4 t6 t7 t8 t9 t10 t11 t12, b = { tmps := #[t0, t1, .pointer (some ⟨w.heap.size, 0, none⟩), t3, t4, .pointer (some ⟨g, 0, none⟩), t6, t7, t8, t9, t10, t11, t12], defers := [] }
theorem MidR.turns (w : World) (B : Nat) (hB : w.heap.size ≤ B) (xs : List (Int × Int)) (x : Int × Int) (b : Act) : Turns B (MidR w xs x b) := fun A l o o' h hl ho hc => by
  obtain ⟨h1, h2, g, h3, h4, h5⟩ := h
  exact ⟨RQ.turns w B hB xs A l o o' h1 hl ho hc, h2, g, h3, turns_block A l o o' h4 hl ho hc, h5⟩
set_option maxRecDepth 100000 in
set_option maxHeartbeats 4000000 in
theorem appendSeq_r (g : Nat) {m : Am} (w : World) (h : AmAt w g m) :
    Calls Try.prog 58 #[.slice none 0 0, .func (.func 38) #[.pointer (some ⟨g, 6, none⟩)] #[]] w fun e w' => ∃ v, e = .returned v ∧ w'.ownsRow w.heap.size 54 2 v m.rl.length (flatR m.rl) ∧ Below w.heap.size w w' := by
  obtain ⟨i0, hi, hz0, hz1, hz2⟩ := info_parts infoR
  have HH := Lib.hid h
  refine (callsIn_wide (n := 0)).1 ?_
  refine callsIn_of_wp_marks Try.func58 rfl trivial ?_ rfl
  simp only [Try.ntmps58, List.size_toArray, List.length_cons, List.length_nil, Nat.reduceAdd, Nat.reduceSub, Array.replicate_succ, Array.replicate_zero, List.push_toArray, List.append_toArray, List.nil_append, List.cons_append]
  clear h
  gi_wp2
  have HQ4 : Hid (Below w.heap.size w (w.alloc (.cells #[.slice none 0 0] 51))) := (Below.refl _ _).alloc (Nat.le_refl _) _
  have H0 : Hid (RQ w [] (w.alloc (.cells #[.slice none 0 0] 51))) := ⟨Nat.zero_le _, HQ4.out, _, heap_alloc_last _ _, World.ownsRow_nil _ _ _ _⟩
  have hsz : w.heap.size < (w.alloc (.cells #[.slice none 0 0] 51)).heap.size := by simp
  generalize w.alloc (.cells #[.slice none 0 0] 51) = w4 at HQ4 H0 hsz ⊢
  have hle4 : w.heap.size ≤ w4.heap.size := by omega
  refine rangedM (B := w.heap.size) hle4 (gf := 38) (rc := .pointer (some ⟨g, 6, none⟩)) rfl (enters_of Try.func38 (by kernel_rfl) rfl) encR (fun _ => rfl)
    (fun xs _ _ => xs.length < 131071) (RQ w) (fun _ _ => False) (MidR w) (fun xs => xs = m.rl) (RQ.turns w _ hle4) (fun _ _ _ _ _ h _ _ _ => h) (MidR.turns w _ hle4) (fun _ _ _ h hq => h.gr hq) H0.out ?assign ?body ?seq ?done ?stop
  case seq =>
    intro lp J Jx W hW hI hJ hY h0
    exact each_r_in lp w.heap.size g W J Jx hJ (fun xs V hV => HH.out.gr (hI _ _ hV).low) (fun xs x V hV hx => hY xs x V hV hx) h0
  case assign =>
    intro lp xs x W hI hG
    have HI := Lib.hid hI
    have HG := Lib.hid hG
    clear hI hG
    simp only [encR, pairV]
    gi_wp2
    have hal : Gr W (W.alloc (.cells #[.int .i64 x.1, .int .i64 x.2] 54)) := (Gr.refl W).alloc _
    have hg : w.heap.size < W.heap.size := by obtain ⟨v, h1, _⟩ := HI.out.lv; exact (Array.getElem?_eq_some_iff.1 h1).1
    exact ⟨(KeepsOthers.alloc _ _).from _, Below.alloc (Below.refl _ W) HI.out.low.size _, HI.out.gr hal, HG.out, W.heap.size, hg, heap_alloc_last _ _, _, _, _, _, _, _, _, _, _, _, _, rfl⟩
  case body =>
    rintro lp xs x b W ⟨hI, hG, gx, hgl, hg, t0, t1, t3, t4, t6, t7, t8, t9, t10, t11, t12, rfl⟩
    obtain ⟨vl, hv, hown⟩ := hI.lv
    obtain ⟨al, cl, rfl, _, _⟩ := (own_rd hown).shape
    have bl : Boxed W w.heap.size 51 (.slice al xs.length cl) := hv
    have hcl := bl.cell
    have hfl := bl.frozen
    obtain ⟨k0, k1⟩ := cells2 hg
    have HROW := Lib.hid hown
    have HBL := Lib.hid bl
    have HI := Lib.hid hI
    have hlow := hI.low.size
    obtain ⟨N, hN⟩ : ∃ N, N = xs.length := ⟨_, rfl⟩
    rw [← hN] at hcl HBL hG HROW
    have HN := Lib.hid hN
    clear hI hv hown bl hg hN
    gi_wp2_with (gi_at_builtin; refine wpListIn_append_own _ rfl (.tmp 8) (.tmp 10) 51 rfl w.heap.size 54 i0 _ 2 16 Try.underlying51 hi hz0 hz1 hz2 rfl (by decide) _ _ _ rfl (World.ownsRow.alloc HROW.out _) ⟨W.heap.size, 0, none⟩ 1 1 [.int .i64 x.1, .int .i64 x.2] rfl rfl (cells_new W [.int .i64 x.1, .int .i64 x.2] 54) (one_pair x) (by unfold maxLen; omega) (by omega) (by simp; omega) ?_; intro v' w1 hown' hgrow _; obtain ⟨g', cap', rfl⟩ := ownsRow_succ hown'; obtain ⟨hv1, hv2, hr2, hk2, hb2⟩ := HBL.out.appended (by decide) HROW.out hlow (by omega) hown' hgrow; have hc1 := hv1.cell; have hf1 := hv1.frozen)
    refine ⟨hk2.from _, hb2, ⟨by rw [List.length_append, ← HN.out]; simp; omega, HI.out.low.trans hb2, _, hv2, ?_⟩⟩
    rw [flatR_append, flatR_one, List.length_append, ← HN.out]
    exact hr2
  case done =>
    intro D xs W hD hS hI hK
    obtain ⟨v, hv, hown⟩ := hI.lv
    obtain ⟨al, cl, rfl, _, _⟩ := (own_rd hown).shape
    have bl : Boxed W w.heap.size 51 (.slice al xs.length cl) := hv
    have HI := Lib.hid hI
    have HO := Lib.hid hown
    have hcl := bl.cell
    subst hS
    obtain ⟨N, hN⟩ : ∃ N, N = m.rl.length := ⟨_, rfl⟩
    rw [← hN] at hcl HO
    have HN := Lib.hid hN
    have HKK := Lib.hid hK
    clear hI hown hv bl hK hN
    gi_wp2
    refine ⟨by simp, .inl ⟨_, _, rfl, run_takeDeferred HKK.out, ?_⟩⟩
    refine ⟨_, results_tmp rfl _ _ _, _, rfl, ?_, turns_below hle4 _ D _ (.deferred none) HI.out.low hD HKK.out rfl⟩
    have := turns_row (B := w4.heap.size) _ D _ (.deferred none) HO.out hD HKK.out rfl
    rw [← HN.out]
    exact this
  case stop =>
    intro D xs W hD hX hK
    exact hX.elim
theorem collect_r (g : Nat) {m : Am} (w : World) (h : AmAt w g m) :
    Calls Try.prog 55 #[.func (.func 38) #[.pointer (some ⟨g, 6, none⟩)] #[]] w fun e w' => ∃ v, e = .returned v ∧ w'.ownsRow w.heap.size 54 2 v m.rl.length (flatR m.rl) ∧ Below w.heap.size w w' := by
  have HA := Lib.hid (appendSeq_r g w h)
  clear h
  go_enter Try.func55, Try.ntmps55
  go_wp2_with fail
  refine HA.out.mono ?_
  rintro e w1 ⟨v, rfl, ho, hb⟩
  have HO := Lib.hid ho
  have HB := Lib.hid hb
  clear ho hb HA
  go_wp2
  go_ret
  exact ⟨_, rfl, HO.out, HB.out⟩
theorem all_r (g : Nat) {m : Am} (w : World) (h : AmAt w g m) :
    Calls Try.prog 41 #[.pointer (some ⟨g, 6, none⟩)] w fun e w' => ∃ v, e = .returned v ∧ w'.ownsRow w.heap.size 54 2 v m.rl.length (flatR m.rl) ∧ Below w.heap.size w w' := by
  have HA := Lib.hid (collect_r g w h)
  clear h
  go_enter Try.func41, Try.ntmps41
  go_wp2_with fail
  refine HA.out.mono ?_
  rintro e w1 ⟨v, rfl, ho, hb⟩
  have HO := Lib.hid ho
  have HB := Lib.hid hb
  clear ho hb HA
  go_wp2
  go_ret
  exact ⟨_, rfl, HO.out, HB.out⟩
theorem one_int (x : Int) : ∀ u ∈ ([.int .i64 x] : List Value), u.oneCell' = true := by
  intro u hu
  obtain rfl := List.mem_singleton.1 hu
  rfl
theorem ints_append (l m : List Int) : ints (l ++ m) = ints l ++ ints m := by simp [ints]
/-- Between two rounds. -/
structure IQ (w : World) (xs : List Int) (W : World) : Prop where
  few : xs.length ≤ 131071
  low : Below w.heap.size w W
  lv : ∃ v, W.heap[w.heap.size]? = some (.cells #[v] 41 (0, 0)) ∧ W.ownsRow w.heap.size 3 1 v xs.length (ints xs)
theorem IQ.turns (w : World) (B : Nat) (hB : w.heap.size ≤ B) (xs : List Int) : Turns B (IQ w xs) := fun A l o o' h hl ho hc => by
  refine ⟨h.few, turns_below hB A l o o' h.low hl ho hc, ?_⟩
  obtain ⟨v, h1, h2⟩ := h.lv
  exact ⟨v, turns_block A l o o' h1 hl ho hc, turns_row A l o o' h2 hl ho hc⟩
theorem IQ.gr {w : World} {xs : List Int} {A B : World} (h : IQ w xs A) (hq : Gr A B) : IQ w xs B := by
  refine ⟨h.few, h.low.trans (Below.mono hq h.low.size), ?_⟩
  obtain ⟨v, h1, h2⟩ := h.lv
  exact ⟨v, heap_gr hq h1, ownsRow_below h2 hq⟩
/-- What stands behind the round's assignments. -/
def MidI (w : World) (xs : List Int) (x : Int) (b : Act) (W : World) : Prop :=
  IQ w xs W ∧ xs.length < 131071 ∧
    ∃ t0 t1 t3 t4 t6 t7 t8 t9 t10 t11 t12, b = { tmps := #[t0, t1, .pointer (some ⟨w.heap.size, 0, none⟩), t3, t4, .int .i64 x, t6, t7, t8, t9, t10, t11, t12], defers := [] }
theorem MidI.turns (w : World) (B : Nat) (hB : w.heap.size ≤ B) (xs : List Int) (x : Int) (b : Act) : Turns B (MidI w xs x b) := fun A l o o' h hl ho hc => by
  obtain ⟨h1, h2, h5⟩ := h
  exact ⟨IQ.turns w B hB xs A l o o' h1 hl ho hc, h2, h5⟩
set_option maxRecDepth 100000 in
set_option maxHeartbeats 4000000 in
theorem appendSeq_i (g : Nat) {m : Am} (w : World) (h : AmAt w g m) :
    Calls Try.prog 61 #[.slice none 0 0, .func (.func 60) #[.pointer (some ⟨g, 3, none⟩)] #[]] w fun e w' => ∃ v, e = .returned v ∧ w'.ownsRow w.heap.size 3 1 v m.fl.length (ints m.fl) ∧ Below w.heap.size w w' := by
  obtain ⟨i0, hi, hz0, hz1, hz2⟩ := info_parts infoI
  have HH := Lib.hid h
  refine (callsIn_wide (n := 0)).1 ?_
  refine callsIn_of_wp_marks Try.func61 rfl trivial ?_ rfl
  simp only [Try.ntmps61, List.size_toArray, List.length_cons, List.length_nil, Nat.reduceAdd, Nat.reduceSub, Array.replicate_succ, Array.replicate_zero, List.push_toArray, List.append_toArray, List.nil_append, List.cons_append]
  clear h
  gi_wp2
  have HQ4 : Hid (Below w.heap.size w (w.alloc (.cells #[.slice none 0 0] 41))) := (Below.refl _ _).alloc (Nat.le_refl _) _
  have H0 : Hid (IQ w [] (w.alloc (.cells #[.slice none 0 0] 41))) := ⟨Nat.zero_le _, HQ4.out, _, heap_alloc_last _ _, World.ownsRow_nil _ _ _ _⟩
  have hsz : w.heap.size < (w.alloc (.cells #[.slice none 0 0] 41)).heap.size := by simp
  generalize w.alloc (.cells #[.slice none 0 0] 41) = w4 at HQ4 H0 hsz ⊢
  have hle4 : w.heap.size ≤ w4.heap.size := by omega
  refine rangedM (B := w.heap.size) hle4 (gf := 60) (rc := .pointer (some ⟨g, 3, none⟩)) rfl (enters_of Try.func60 (by kernel_rfl) rfl) encI (fun _ => rfl)
    (fun xs _ _ => xs.length < 131071) (IQ w) (fun _ _ => False) (MidI w) (fun xs => xs = m.fl) (IQ.turns w _ hle4) (fun _ _ _ _ _ h _ _ _ => h) (MidI.turns w _ hle4) (fun _ _ _ h hq => h.gr hq) H0.out ?assign ?body ?seq ?done ?stop
  case seq =>
    intro lp J Jx W hW hI hJ hY h0
    exact each_i_in lp w.heap.size g W J Jx hJ (fun xs V hV => HH.out.gr (hI _ _ hV).low) (fun xs x V hV hx => hY xs x V hV hx) h0
  case assign =>
    intro lp xs x W hI hG
    have HI := Lib.hid hI
    have HG := Lib.hid hG
    clear hI hG
    simp only [encI]
    gi_wp2
    exact ⟨(KeepsOthers.refl _).from _, Below.refl _ _, HI.out, HG.out, _, _, _, _, _, _, _, _, _, _, _, rfl⟩
  case body =>
    rintro lp xs x b W ⟨hI, hG, t0, t1, t3, t4, t6, t7, t8, t9, t10, t11, t12, rfl⟩
    obtain ⟨vl, hv, hown⟩ := hI.lv
    obtain ⟨al, cl, rfl, _, _⟩ := (own_rd hown).shape
    have bl : Boxed W w.heap.size 41 (.slice al xs.length cl) := hv
    have hcl := bl.cell
    have hfl := bl.frozen
    have HROW := Lib.hid hown
    have HBL := Lib.hid bl
    have HI := Lib.hid hI
    have hlow := hI.low.size
    have hblt := (Array.getElem?_eq_some_iff.1 hv).1
    obtain ⟨N, hN⟩ : ∃ N, N = xs.length := ⟨_, rfl⟩
    rw [← hN] at hcl HBL hG HROW
    have HN := Lib.hid hN
    clear hI hv hown bl hN
    gi_wp2_with (gi_at_builtin; refine wpListIn_append_own _ rfl (.tmp 8) (.tmp 10) 41 rfl w.heap.size 3 i0 _ 1 8 Try.underlying41 hi hz0 hz1 hz2 rfl (by decide) _ _ _ rfl (World.ownsRow.alloc HROW.out _) ⟨W.heap.size, 0, none⟩ 1 1 [.int .i64 x] rfl rfl (cells_new W [.int .i64 x] 3) (one_int x) (by unfold maxLen; omega) (by omega) (by simp; omega) ?_; intro v' w1 hown' hgrow _; obtain ⟨g', cap', rfl⟩ := ownsRow_succ hown'; obtain ⟨hv1, hv2, hr2, hk2, hb2⟩ := HBL.out.appended (by decide) HROW.out hlow (by omega) hown' hgrow; have hc1 := hv1.cell; have hf1 := hv1.frozen)
    refine ⟨hk2.from _, hb2, ⟨by rw [List.length_append, ← HN.out]; simp; omega, HI.out.low.trans hb2, _, hv2, ?_⟩⟩
    rw [ints_append, List.length_append, ← HN.out]
    exact hr2
  case done =>
    intro D xs W hD hS hI hK
    obtain ⟨v, hv, hown⟩ := hI.lv
    obtain ⟨al, cl, rfl, _, _⟩ := (own_rd hown).shape
    have bl : Boxed W w.heap.size 41 (.slice al xs.length cl) := hv
    have HI := Lib.hid hI
    have HO := Lib.hid hown
    have hcl := bl.cell
    subst hS
    obtain ⟨N, hN⟩ : ∃ N, N = m.fl.length := ⟨_, rfl⟩
    rw [← hN] at hcl HO
    have HN := Lib.hid hN
    have HKK := Lib.hid hK
    clear hI hown hv bl hK hN
    gi_wp2
    refine ⟨by simp, .inl ⟨_, _, rfl, run_takeDeferred HKK.out, ?_⟩⟩
    refine ⟨_, results_tmp rfl _ _ _, _, rfl, ?_, turns_below hle4 _ D _ (.deferred none) HI.out.low hD HKK.out rfl⟩
    have := turns_row (B := w4.heap.size) _ D _ (.deferred none) HO.out hD HKK.out rfl
    rw [← HN.out]
    exact this
  case stop =>
    intro D xs W hD hX hK
    exact hX.elim
theorem collect_i (g : Nat) {m : Am} (w : World) (h : AmAt w g m) :
    Calls Try.prog 59 #[.func (.func 60) #[.pointer (some ⟨g, 3, none⟩)] #[]] w fun e w' => ∃ v, e = .returned v ∧ w'.ownsRow w.heap.size 3 1 v m.fl.length (ints m.fl) ∧ Below w.heap.size w w' := by
  have HA := Lib.hid (appendSeq_i g w h)
  clear h
  go_enter Try.func59, Try.ntmps59
  go_wp2_with fail
  refine HA.out.mono ?_
  rintro e w1 ⟨v, rfl, ho, hb⟩
  have HO := Lib.hid ho
  have HB := Lib.hid hb
  clear ho hb HA
  go_wp2
  go_ret
  exact ⟨_, rfl, HO.out, HB.out⟩
theorem all_i (g : Nat) {m : Am} (w : World) (h : AmAt w g m) :
    Calls Try.prog 56 #[.pointer (some ⟨g, 3, none⟩)] w fun e w' => ∃ v, e = .returned v ∧ w'.ownsRow w.heap.size 3 1 v m.fl.length (ints m.fl) ∧ Below w.heap.size w w' := by
  have HA := Lib.hid (collect_i g w h)
  clear h
  go_enter Try.func56, Try.ntmps56
  go_wp2_with fail
  refine HA.out.mono ?_
  rintro e w1 ⟨v, rfl, ho, hb⟩
  have HO := Lib.hid ho
  have HB := Lib.hid hb
  clear ho hb HA
  go_wp2
  go_ret
  exact ⟨_, rfl, HO.out, HB.out⟩
end Go.Proofs.Ytpafcabcnkmadaa.Id
