/-
  opts.Decode, whatever bytes come.
-/
import Derived.Test.YteemcckfhadkhaaOpE
namespace Go.Proofs.Yteemcckfhadkhaa.O
open Go.RowKit Go.Shelf
set_option linter.unusedVariables false
set_option linter.unusedSimpArgs false
attribute [local go_sem] Oper.semAt_some

/-- What Decode tells: new options, each data in new memory. -/
def DecR (l : List UInt8) (w : World) (e : Ending) (w' : World) : Prop :=
  ∃ v, e = .returned (.tuple #[v, .int .i64 (dec l).2]) ∧ (∃ ts, plain ts = (dec l).1 ∧ TO w' w.heap.size v ts) ∧ Below w.heap.size w w'
theorem DecR.none {l : List UInt8} {w w' : World} {k : Int} (h : dec l = ([], k)) (hb : Below w.heap.size w w') : DecR l w (.returned (.tuple #[.slice Option.none 0 0, .int .i64 k])) w' :=
  ⟨_, by rw [h], ⟨[], by rw [h]; rfl, TO.nil _ _⟩, hb⟩
theorem DecR.some {l : List UInt8} {w w' : World} {v : Value} {ts : List Tg} (h : dec l = (plain ts, 0)) (ho : TO w' w.heap.size v ts) (hb : Below w.heap.size w w') : DecR l w (.returned (.tuple #[v, .int .i64 0])) w' :=
  ⟨_, by rw [h], ⟨ts, by rw [h], ho⟩, hb⟩
/-- Results that lie in two cells. -/
theorem results_cells2 {P : Program} {fn : Func} {p q : Tmp} {t u : TypeId} (h : fn.results = #[.cell p t, .cell q u]) (tmps : Array Value) (w : World) (ap aq : Addr) (x y : Value)
    (hp : tmps.getD p undef = .pointer (some ap)) (hq : tmps.getD q undef = .pointer (some aq)) (hx : (loadVar t ap).run P w = .ok x w) (hy : (loadVar u aq).run P w = .ok y w) :
    (results fn tmps).run P w = .ok (.tuple #[x, y]) w := by
  have hp' : tmps[p]?.getD undef = .pointer (some ap) := by simpa using hp
  have hq' : tmps[q]?.getD undef = .pointer (some aq) := by simpa using hq
  simp only [results, h]
  simp [Sem.run_bind, Result.andThen, hp', hq', asAddr, hx, hy]

/-- Between two rounds. -/
structure RI (w : World) (xs : List El) (W : World) : Prop where
  whole : ∀ x ∈ xs, x.2 = true
  few : xs.length ≤ 64
  low : Below w.heap.size w W
  c0 : W.heap[w.heap.size]? = some (.cells #[.slice none 0 0] 22)
  c1 : W.heap[w.heap.size + 1]? = some (.cells #[.int .i64 0] 26)
  lv : ∃ v, W.heap[w.heap.size + 2]? = some (.cells #[v] 22 (0, 0)) ∧ TO W w.heap.size v (optsOf xs)
/-- A round has refused. -/
structure RX (l : List UInt8) (w W : World) : Prop where
  low : Below w.heap.size w W
  err : ∃ k : Int, decL [] l = ([], k) ∧ W.heap[w.heap.size + 1]? = some (.cells #[.int .i64 k] 26 (0, 0))
  c0 : W.heap[w.heap.size]? = some (.cells #[.slice none 0 0] 22)

theorem RI.turns (w : World) (B : Nat) (hB : w.heap.size ≤ B) (xs : List El) : Turns B (RI w xs) := fun A l o o' h hl ho hc => by
  refine ⟨h.whole, h.few, turns_below hB A l o o' h.low hl ho hc, turns_block A l o o' h.c0 hl ho hc, turns_block A l o o' h.c1 hl ho hc, ?_⟩
  obtain ⟨v, h1, h2⟩ := h.lv
  exact ⟨v, turns_block A l o o' h1 hl ho hc, turns_row A l o o' h2.own hl ho hc, fun t ht => turns_row A l o o' (h2.vals t ht) hl ho hc⟩
theorem RX.turns (l' : List UInt8) (w : World) (B : Nat) (hB : w.heap.size ≤ B) : Turns B (RX l' w) := fun A l o o' h hl ho hc => by
  refine ⟨turns_below hB A l o o' h.low hl ho hc, ?_, turns_block A l o o' h.c0 hl ho hc⟩
  obtain ⟨k, h1, h2⟩ := h.err
  exact ⟨k, h1, turns_block A l o o' h2 hl ho hc⟩
theorem Good.turns (l' : List UInt8) (base B : Nat) (xs : List El) (x : El) : Turns B (Good l' base xs x) := fun A l o o' h hl ho hc =>
  ⟨fun e => ⟨turns_row A l o o' (h.whole e).1 hl ho hc, (h.whole e).2⟩, h.torn⟩
theorem Good.gr {l : List UInt8} {base : Nat} {xs : List El} {x : El} {A B : World} (h : Good l base xs x A) (hq : Gr A B) : Good l base xs x B :=
  ⟨fun e => ⟨(h.whole e).1.below hq, (h.whole e).2⟩, h.torn⟩
theorem RI.gr {w : World} {xs : List El} {A B : World} (h : RI w xs A) (hq : Gr A B) : RI w xs B := by
  refine ⟨h.whole, h.few, h.low.trans (Below.mono hq h.low.size), heap_gr hq h.c0, heap_gr hq h.c1, ?_⟩
  obtain ⟨v, h1, h2⟩ := h.lv
  exact ⟨v, heap_gr hq h1, h2.below hq⟩
/-- A store into a block of another type leaves the options as they are. -/
theorem TO.box {w : World} {base B : Nat} {v : Value} {ts : List Tg} {t : TypeId} {cs : Array Value} {fr : Nat × Nat} (h : TO w base v ts) (hB : w.heap[B]? = some (.cells cs t fr)) (h1 : 36 ≠ t) (h2 : 5 ≠ t) (u : Value) : TO (w.setCell ⟨B, 0, none⟩ u) base v ts :=
  ⟨World.ownsRow.kept h.own (grownBy_setCell' w B u) (.inr (own_ne_cell h.own hB h1)), fun x hx => World.ownsRow.kept (h.vals x hx) (grownBy_setCell' w B u) (.inr (own_ne_cell (h.vals x hx) hB h2))⟩
/-- What stands behind the round's assignments. -/
def Mid (l : List UInt8) (w : World) (xs : List El) (x : El) (b : Act) (W : World) : Prop :=
  RI w xs W ∧ Good l w.heap.size xs x W ∧ ∃ g, w.heap.size ≤ g ∧ W.heap[g]? = some (.cells #[.int .i64 x.1.typ, x.1.val] 36 (0, 0)) ∧
    ∃ t0 t1 t7 t8 t9 t10 t11 t12 t13 t14 t15 t16 t17 t18 t19 t20 t21 t22 t23 t24 t25, b = { tmps := #[t0, t1, .pointer (some ⟨w.heap.size, 0, none⟩), .pointer (some ⟨w.heap.size + 1, 0, none⟩), .pointer (some ⟨w.heap.size + 2, 0, none⟩), .pointer (some ⟨g, 0, none⟩), .bool x.2, t7, t8, t9, t10, t11, t12, t13, t14, t15, t16, t17, t18, t19, t20, t21, t22, t23, t24, t25], defers := [] }
theorem Mid.turns (l' : List UInt8) (w : World) (B : Nat) (hB : w.heap.size ≤ B) (xs : List El) (x : El) (b : Act) : Turns B (Mid l' w xs x b) := fun A l o o' h hl ho hc => by
  obtain ⟨h1, h2, g, h3, h4, h5⟩ := h
  exact ⟨RI.turns w B hB xs A l o o' h1 hl ho hc, Good.turns l' _ B xs x A l o o' h2 hl ho hc, g, h3, turns_block A l o o' h4 hl ho hc, h5⟩

set_option maxRecDepth 100000 in
set_option maxHeartbeats 4000000 in
theorem decode_any (a : Option Addr) (n c : Nat) (l : List UInt8) (hn : l.length = n) (w : World) (hb : Bs w (.slice a n c) l) (hr : n ≤ 140737488351232) :
    Calls Try.prog 14 #[.slice a n c] w (DecR l w) := by
  obtain ⟨i0, hi, hz0, hz1, hz2⟩ := info_parts infoT
  have HN := Lib.hid hn
  have HBS := Lib.hid hb
  by_cases hlong : 1488 < n
  · have HD := Lib.hid (dec_long (l := l) (by omega))
    clear hn hb
    go_enter Try.func14, Try.ntmps14
    go_wp2
    have b0 : Boxed ((w.alloc (.cells #[.slice none 0 0] 22)).alloc (.cells #[.int .i64 2] 26)) w.heap.size 22 (.slice none 0 0) := heap2_0' w _ _
    have b1 : Boxed ((w.alloc (.cells #[.slice none 0 0] 22)).alloc (.cells #[.int .i64 2] 26)) (w.heap.size + 1) 26 (.int .i64 2) := heap2_1' w _ _
    have c0 := b0.cell
    have c1 := b1.cell
    refine bodyPost_ret (v := .tuple #[.slice none 0 0, .int .i64 2]) (results_cells2 (P := Try.prog) (fn := Try.f14) rfl _ _ ⟨w.heap.size, 0, none⟩ ⟨w.heap.size + 1, 0, none⟩ _ _ rfl rfl (by simp [go_sem, c0]) (by simp [go_sem, c1])) rfl ?_
    exact DecR.none HD.out (((Below.refl _ _).alloc (Nat.le_refl _) _).alloc (by simp) _)
  have HD := Lib.hid (dec_fits (l := l) (by omega))
  refine (callsIn_wide (n := 0)).1 ?_
  refine callsIn_of_wp_marks Try.func14 rfl trivial ?_ rfl
  simp only [Try.ntmps14, List.size_toArray, List.length_cons, List.length_nil, Nat.reduceAdd, Nat.reduceSub, Array.replicate_succ, Array.replicate_zero, List.push_toArray, List.append_toArray, List.nil_append, List.cons_append]
  clear hn hb
  gi_wp2_with (refine ⟨trivial, rfl, ?_⟩; refine (callsIn_wide.2 (each_any _ _ _ _)).mono ?_; rintro e w1 ⟨rfl, rfl⟩)
  obtain ⟨w4, hw4⟩ : ∃ w4, w4 = (((w.alloc (.cells #[.slice none 0 0] 22)).alloc (.cells #[.int .i64 0] 26)).alloc (.cells #[.slice none 0 0] 22)).alloc (.cells #[.slice a n c] 23) := ⟨_, rfl⟩
  have hsz4 : w4.heap.size = w.heap.size + 4 := by rw [hw4]; simp
  have hq4 : Below w.heap.size w w4 := by
    rw [hw4]
    exact ((((Below.refl _ _).alloc (Nat.le_refl _) _).alloc (by simp) _).alloc (by simp; omega) _).alloc (by simp; omega) _
  have b3 : Boxed w4 (w.heap.size + 3) 23 (.slice a n c) := by
    have := Boxed.new (((w.alloc (.cells #[.slice none 0 0] 22)).alloc (.cells #[.int .i64 0] 26)).alloc (.cells #[.slice none 0 0] 22)) 23 (.slice a n c)
    rw [← hw4] at this
    simpa using this
  have b2 : Boxed w4 (w.heap.size + 2) 22 (.slice none 0 0) := by
    have := (Boxed.new ((w.alloc (.cells #[.slice none 0 0] 22)).alloc (.cells #[.int .i64 0] 26)) 22 (.slice none 0 0)).alloc (.cells #[.slice a n c] 23)
    rw [← hw4] at this
    simpa using this
  have b1 : Boxed w4 (w.heap.size + 1) 26 (.int .i64 0) := by
    have := ((Boxed.new (w.alloc (.cells #[.slice none 0 0] 22)) 26 (.int .i64 0)).alloc (.cells #[.slice none 0 0] 22)).alloc (.cells #[.slice a n c] 23)
    rw [← hw4] at this
    simpa using this
  have b0 : Boxed w4 w.heap.size 22 (.slice none 0 0) := by
    have := (((Boxed.new w 22 (.slice none 0 0)).alloc (.cells #[.int .i64 0] 26)).alloc (.cells #[.slice none 0 0] 22)).alloc (.cells #[.slice a n c] 23)
    rw [← hw4] at this
    exact this
  have H0 : Hid (RI w [] w4) := ⟨fun x h => (by cases h), Nat.zero_le _, hq4, b0, b1, _, b2, TO.nil _ _⟩
  have HQ4 := Lib.hid hq4
  have HB3 := Lib.hid b3
  rw [← hw4]
  have hle4 : w.heap.size ≤ w4.heap.size := by omega
  have HSZ := Lib.hid hsz4
  clear hw4 b0 b1 b2 b3 hq4 hsz4
  refine ranged (B := w.heap.size) hle4 (gf := 37) (lb := #[.pointer (some ⟨w.heap.size + 3, 0, none⟩)]) rfl (enters_of Try.func37 (by kernel_rfl) rfl) encE2 (fun _ => rfl)
    (Good l w.heap.size) (RI w) (fun _ => RX l w) (Mid l w) (AllCame l) (RI.turns w _ hle4) (fun _ => RX.turns l w _ hle4) (Mid.turns l w _ hle4) (fun _ _ _ h hq => h.gr hq) H0.out ?assign ?body ?seq ?done ?stop
  case seq =>
    intro lp J Jx W hW hJ hY h0
    exact each1_in lp w.heap.size (w.heap.size + 3) w W a n c l HN.out HBS.out (HQ4.out.trans (Below.mono hW hle4)) (Nat.le_refl _) hr J Jx hJ hY (heap_gr hW HB3.out) h0
  case assign =>
    intro lp xs x W hI hG
    obtain ⟨⟨T, v, lx⟩, ok⟩ := x
    have hv : ∃ A L C, v = .slice A L C := by
      cases ok with
      | true => obtain ⟨A, L, C, e, _⟩ := (hG.whole rfl).1.bs.sl; exact ⟨A, L, C, e⟩
      | false => have := congrArg Tg.val (hG.torn rfl).1; exact ⟨_, _, _, this⟩
    obtain ⟨A, L, C, rfl⟩ := hv
    have HI := Lib.hid hI
    have HG := Lib.hid hG
    clear hI hG
    simp only [encE2]
    gi_wp2
    have hal : Gr W (W.alloc (.cells #[.int .i64 T, .slice A L C] 36)) := (Gr.refl W).alloc _
    exact ⟨(KeepsOthers.alloc _ _).from _, Below.alloc (Below.refl _ W) HI.out.low.size _, HI.out.gr hal, HG.out.gr hal, W.heap.size, HI.out.low.size, heap_alloc_last _ _, _, _, _, _, _, _, _, _, _, _, _, _, _, _, _, _, _, _, _, _, _, rfl⟩
  case body =>
    rintro lp xs x b W ⟨hI, hG, g, hgl, hg, t0, t1, t7, t8, t9, t10, t11, t12, t13, t14, t15, t16, t17, t18, t19, t20, t21, t22, t23, t24, t25, rfl⟩
    obtain ⟨⟨T, v, lx⟩, ok⟩ := x
    have b0 : Boxed W w.heap.size 22 (.slice none 0 0) := hI.c0
    have b1 : Boxed W (w.heap.size + 1) 26 (.int .i64 0) := hI.c1
    have q0 : w.heap.size ≠ w.heap.size + 1 := by omega
    have hlowe : ∀ k : Int, Below w.heap.size w ((W.setCell ⟨w.heap.size, 0, none⟩ (.slice none 0 0)).setCell ⟨w.heap.size + 1, 0, none⟩ (.int .i64 k)) := fun k => (hI.low.setCell (Nat.le_refl _) _).setCell (by show _ ≤ w.heap.size + 1; omega) _
    have hrx : ∀ k : Int, decL [] l = ([], k) → RX l w ((W.setCell ⟨w.heap.size, 0, none⟩ (.slice none 0 0)).setCell ⟨w.heap.size + 1, 0, none⟩ (.int .i64 k)) := fun k hk =>
      ⟨hlowe k, ⟨k, hk, ((b1.other (Ne.symm q0) _).set _)⟩, (b0.set _).other q0 _⟩
    have hke : ∀ k : Int, KeepsFrom w4.heap.size W ((W.setCell ⟨w.heap.size, 0, none⟩ (.slice none 0 0)).setCell ⟨w.heap.size + 1, 0, none⟩ (.int .i64 k)) := fun k => ((KeepsOthers.setCell _ _ _).trans (KeepsOthers.setCell _ _ _)).from _
    have HRX := Lib.hid hrx
    have HKE := Lib.hid hke
    have c0 := b0.cell
    have f0 := b0.frozen
    have c1 := b1.cell
    have f1 := b1.frozen
    have c1' : (W.setCell ⟨w.heap.size, 0, none⟩ (.slice none 0 0)).cell? ⟨w.heap.size + 1, 0, none⟩ = some (.int .i64 0) := (b1.other (Ne.symm q0) _).cell
    have f1' : (W.setCell ⟨w.heap.size, 0, none⟩ (.slice none 0 0)).frozen? ⟨w.heap.size + 1, 0, none⟩ = false := (b1.other (Ne.symm q0) _).frozen
    cases ok with
    | false =>
      have HE := Lib.hid ((hG.torn rfl).2 hI.few)
      clear hI hG hg b0 b1 hlowe hrx hke
      gi_wp2
      exact ⟨HKE.out 80, HRX.out 80 HE.out⟩
    | true =>
      obtain ⟨hown, h64⟩ := hG.whole rfl
      obtain ⟨vl, hv, hto⟩ := hI.lv
      obtain ⟨A, L, C, rfl, _, _, _⟩ := hown.bs.sl
      obtain ⟨al, cl, rfl, _, _⟩ := hto.tr.shape
      obtain ⟨N, hN⟩ : ∃ N, N = (optsOf xs).length := ⟨_, rfl⟩
      have bl : Boxed W (w.heap.size + 2) 22 (.slice al (optsOf xs).length cl) := hv
      rw [← hN] at bl
      have hN64 : N ≤ 64 := by rw [hN, optsOf_length]; exact hI.few
      have hcl := bl.cell
      have hfl := bl.frozen
      obtain ⟨k0, k1⟩ := copy_cells hg
      have HXN : Hid (N = xs.length) := by show _ = _; rw [hN, optsOf_length]
      have HI := Lib.hid hI
      have HTO : Hid (TO W w.heap.size (.slice al N cl) (optsOf xs)) := by rw [hN]; exact hto
      have HOW := Lib.hid hown
      have H64 := Lib.hid h64
      have HB0 := Lib.hid b0
      have HB1 := Lib.hid b1
      have HBL := Lib.hid bl
      have HNN := Lib.hid hN
      have hlow := hI.low.size
      clear hI hG hg b0 b1 hlowe hrx hke hv hto bl h64 hown hN
      by_cases h64 : N = 64
      · have HE := Lib.hid (H64.out (by rw [← HXN.out]; exact h64))
        subst h64
        gi_wp2
        exact ⟨HKE.out 3, HRX.out 3 HE.out⟩
      · have h64' : ((N : Int) == 64) = false := by rw [beq_eq_false_iff_ne]; omega
        have hrow : W.ownsRow w.heap.size 36 2 (.slice al N cl) N (flat (optsOf xs)) := by have := HTO.out.own; rwa [← HNN.out] at this
        have HROW := Lib.hid hrow
        clear hrow
        gi_wp2_with (gi_at_builtin; refine wpListIn_append_own _ rfl (.tmp 21) (.tmp 23) 22 rfl w.heap.size 36 i0 _ 2 32 Try.underlying22 hi hz0 hz1 hz2 rfl (by decide) _ _ _ rfl (World.ownsRow.alloc HROW.out _) ⟨W.heap.size, 0, none⟩ 1 1 [.int .i64 T, .slice A L C] rfl rfl (cells_new W [.int .i64 T, .slice A L C] 36) (one_tag T rfl) (by unfold maxLen; omega) (by omega) (by simp; omega) ?_; intro v' w1 hown' hgrow _; obtain ⟨g', cap', rfl⟩ := ownsRow_succ hown'; obtain ⟨hv1, hv2, hr2, hk2, hb2⟩ := HBL.out.appended (by decide) HROW.out hlow (by omega) hown' hgrow; have hc1 := hv1.cell; have hf1 := hv1.frozen)
        have hal : Gr W (W.alloc (.cells #[.int .i64 T, .slice A L C] 36)) := (Gr.refl W).alloc _
        have ho2 : w1.ownsRow w.heap.size 36 2 (.slice (some ⟨g', 0, none⟩) (N + 1) cap') ((optsOf xs).length + 1) (flat (optsOf xs) ++ [.int .i64 T, .slice A L C]) := by rw [← HNN.out]; exact hown'
        have hto2 := (TO.more (t := ⟨T, .slice A L C, lx⟩) (HTO.out.below hal) (HOW.out.below hal) ho2 hgrow).box hv1 (by decide) (by decide) (.slice (some ⟨g', 0, none⟩) (N + 1) cap')
        refine ⟨hk2.from _, hb2, ⟨?_, ?_, HI.out.low.trans hb2, ?_, ?_, _, hv2, ?_⟩⟩
        · intro y hy
          rcases List.mem_append.1 hy with hy | hy
          · exact HI.out.whole y hy
          · rw [List.mem_singleton.1 hy]
        · rw [List.length_append, ← HXN.out]; simp; omega
        · exact ((HB0.out.alloc _).kept hgrow (HB0.out.not_row (by decide) HROW.out)).other (by omega) _
        · exact ((HB1.out.alloc _).kept hgrow (HB1.out.not_row (by decide) HROW.out)).other (by omega) _
        · rw [optsOf_snoc]; exact hto2
  case done =>
    intro D xs W hD hS hI hK
    obtain ⟨v, hv, hto⟩ := hI.lv
    obtain ⟨al, cl, rfl, _, _⟩ := hto.tr.shape
    have b0 : Boxed W w.heap.size 22 (.slice none 0 0) := hI.c0
    have b1 : Boxed W (w.heap.size + 1) 26 (.int .i64 0) := hI.c1
    have bl : Boxed W (w.heap.size + 2) 22 (.slice al (optsOf xs).length cl) := hv
    have HDE : Hid (dec l = (plain (optsOf xs), 0)) := by show _ = _; rw [HD.out]; exact hS hI.whole hI.few
    have HTO := Lib.hid hto
    have HI := Lib.hid hI
    have HB0 := Lib.hid b0
    have HB1 := Lib.hid b1
    have HKK := Lib.hid hK
    have HDD := Lib.hid hD
    obtain ⟨sv, hsv⟩ : ∃ sv, sv = Value.slice al (optsOf xs).length cl := ⟨_, rfl⟩
    have h1c : sv.oneCell' = true := by rw [hsv]; rfl
    have q0 : w.heap.size ≠ w.heap.size + 1 := by omega
    have c0 := b0.cell
    have f0 := b0.frozen
    have cl0 := bl.cell
    have c1' : (W.setCell ⟨w.heap.size, 0, none⟩ (.slice al (optsOf xs).length cl)).cell? ⟨w.heap.size + 1, 0, none⟩ = some (.int .i64 0) := (b1.other (Ne.symm q0) _).cell
    have f1' : (W.setCell ⟨w.heap.size, 0, none⟩ (.slice al (optsOf xs).length cl)).frozen? ⟨w.heap.size + 1, 0, none⟩ = false := (b1.other (Ne.symm q0) _).frozen
    clear hI hto hv b0 b1 bl hS hK hD
    gi_wp2
    have hK2 := ((KeepsOthers.setCell W ⟨w.heap.size, 0, none⟩ (.slice al (optsOf xs).length cl)).trans (KeepsOthers.setCell _ ⟨w.heap.size + 1, 0, none⟩ (.int .i64 0))).same D _ HKK.out rfl
    have r0 := turns_block (B := w4.heap.size) _ D _ (.deferred none) (((HB0.out.set (.slice al (optsOf xs).length cl)).other q0 (.int .i64 0)) : Boxed _ _ _ _) HDD.out hK2 rfl
    have r1 := turns_block (B := w4.heap.size) _ D _ (.deferred none) (((HB1.out.other (Ne.symm q0) (.slice al (optsOf xs).length cl)).set (.int .i64 0)) : Boxed _ _ _ _) HDD.out hK2 rfl
    have c2 := Boxed.cell r0
    have c3 := Boxed.cell r1
    have t1 := (HTO.out.box HB0.out (by decide) (by decide) (.slice al (optsOf xs).length cl)).box (HB1.out.other (Ne.symm q0) (.slice al (optsOf xs).length cl)) (by decide) (by decide) (.int .i64 0)
    have t2 : TO _ _ _ _ := ⟨turns_row (B := w4.heap.size) _ D _ (.deferred none) t1.own HDD.out hK2 rfl, fun y hy => turns_row (B := w4.heap.size) _ D _ (.deferred none) (t1.vals y hy) HDD.out hK2 rfl⟩
    have t3 := ((HI.out.low.setCell (p := ⟨w.heap.size, 0, none⟩) (Nat.le_refl _) (.slice al (optsOf xs).length cl)).setCell (p := ⟨w.heap.size + 1, 0, none⟩) (by show _ ≤ w.heap.size + 1; omega) (.int .i64 0))
    have t4 := turns_below hle4 _ D _ (.deferred none) t3 HDD.out hK2 rfl
    refine ⟨by simp, .inl ⟨_, _, rfl, run_takeDeferred hK2, ?_⟩⟩
    exact ⟨_, results_cells2 (P := Try.prog) (fn := Try.f14) rfl _ _ ⟨w.heap.size, 0, none⟩ ⟨w.heap.size + 1, 0, none⟩ _ _ rfl rfl (by simp [go_sem, c2]) (by simp [go_sem, c3]), DecR.some HDE.out t2 t4⟩
  case stop =>
    intro D xs W hD hX hK
    obtain ⟨k, hk, hk1⟩ := hX.err
    have b0 : Boxed W w.heap.size 22 (.slice none 0 0) := hX.c0
    have b1 : Boxed W (w.heap.size + 1) 26 (.int .i64 k) := hk1
    have HDE : Hid (dec l = ([], k)) := by show _ = _; rw [HD.out]; exact hk
    gi_wp2
    have r0 := turns_block (B := w4.heap.size) _ D _ (.deferred none) b0 hD hK rfl
    have r1 := turns_block (B := w4.heap.size) _ D _ (.deferred none) b1 hD hK rfl
    have c2 := Boxed.cell r0
    have c3 := Boxed.cell r1
    have t4 := turns_below hle4 _ D _ (.deferred none) hX.low hD hK rfl
    refine ⟨by simp, .inl ⟨_, _, rfl, run_takeDeferred hK, ?_⟩⟩
    exact ⟨_, results_cells2 (P := Try.prog) (fn := Try.f14) rfl _ _ ⟨w.heap.size, 0, none⟩ ⟨w.heap.size + 1, 0, none⟩ _ _ rfl rfl (by simp [go_sem, c2]) (by simp [go_sem, c3]), DecR.none HDE.out t4⟩
end Go.Proofs.Yteemcckfhadkhaa.O
