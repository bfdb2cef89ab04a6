/-
  Free, Taken.
-/
import Derived.Test.YtpafcabcnkmadaaIdQ
namespace Go.Proofs.Ytpafcabcnkmadaa.Id
open Go.RowKit Go.Shelf
set_option linter.unusedVariables false
set_option linter.unusedSimpArgs false
attribute [local go_sem] Oper.semAt_some

/-- Between two rounds of Free: the tick, how many there are so far. -/
structure FQ (w : World) (t : Int) (n : Nat) (xs : List (Int × Int)) (W : World) : Prop where
  few : xs.length ≤ 131071
  low : Below w.heap.size w W
  c0 : W.heap[w.heap.size]? = some (.cells #[.int .i64 t] 3 (0, 0))
  c1 : W.heap[w.heap.size + 1]? = some (.cells #[.int .i64 ((n + (xs.filter (ready t)).length : Nat) : Int)] 3 (0, 0))
theorem FQ.turns (w : World) (t : Int) (n : Nat) (B : Nat) (hB : w.heap.size ≤ B) (xs : List (Int × Int)) : Turns B (FQ w t n xs) := fun A l o o' h hl ho hc =>
  ⟨h.few, turns_below hB A l o o' h.low hl ho hc, turns_block A l o o' h.c0 hl ho hc, turns_block A l o o' h.c1 hl ho hc⟩
theorem FQ.gr {w : World} {t : Int} {n : Nat} {xs : List (Int × Int)} {A B : World} (h : FQ w t n xs A) (hq : Gr A B) : FQ w t n xs B :=
  ⟨h.few, h.low.trans (Below.mono hq h.low.size), heap_gr hq h.c0, heap_gr hq h.c1⟩
def MidF (w : World) (t : Int) (n : Nat) (xs : List (Int × Int)) (x : Int × Int) (b : Act) (W : World) : Prop :=
  FQ w t n xs W ∧ xs.length < 131071 ∧ ∃ g, w.heap.size + 1 < g ∧ W.heap[g]? = some (.cells #[.int .i64 x.1, .int .i64 x.2] 54 (0, 0)) ∧
    ∃ t0 t1 t2 t4 t7 t8 t9 t10 t11 t12 t13 t14 t15 t16 t17 t18 t19 t20 t21 t22 t23 t24 t25 t26 t27, b = { tmps := #[t0, t1, t2, .pointer (some ⟨w.heap.size, 0, none⟩), t4, .pointer (some ⟨w.heap.size + 1, 0, none⟩), .pointer (some ⟨g, 0, none⟩), t7, t8, t9, t10, t11, t12, t13, t14, t15, t16, t17, t18, t19, t20, t21, t22, t23, t24, t25, t26, t27], defers := [] }
theorem MidF.turns (w : World) (t : Int) (n : Nat) (B : Nat) (hB : w.heap.size ≤ B) (xs : List (Int × Int)) (x : Int × Int) (b : Act) : Turns B (MidF w t n xs x b) := fun A l o o' h hl ho hc => by
  obtain ⟨h1, h2, g, h3, h4, h5⟩ := h
  exact ⟨FQ.turns w t n B hB xs A l o o' h1 hl ho hc, h2, g, h3, turns_block A l o o' h4 hl ho hc, h5⟩
theorem filter_snoc (p : Int × Int → Bool) (xs : List (Int × Int)) (x : Int × Int) : ((xs ++ [x]).filter p).length = (xs.filter p).length + if p x then 1 else 0 := by
  rw [List.filter_append, List.length_append]
  congr 1
  by_cases h : p x = true
  · simp [h]
  · simp [h]
set_option maxRecDepth 100000 in
set_option maxHeartbeats 4000000 in
theorem free_any (g : Nat) {m : Am} {S : Al} (t : Int) (w : World) (h : AlAt w g m S) :
    Calls Try.prog 16 #[.pointer (some ⟨g, 0, none⟩), .int .i64 t] w fun e w' => e = .returned (.int .i64 (free S t)) ∧ Below w.heap.size w w' := by
  have hb0 : Below w.heap.size w (w.alloc (.cells #[.int .i64 t] 3)) := (Below.refl _ _).alloc (Nat.le_refl _) _
  have hx0 : (w.alloc (.cells #[.int .i64 t] 3)).heap[w.heap.size]? = some (.cells #[.int .i64 t] 3) := heap_alloc_last _ _
  have c0 := cell1 hx0
  have C := check_yes g t _ (h.gr hb0).am
  by_cases ht : okT t
  · rw [if_pos ht] at C
    have HCK := Lib.hid C
    have hfree : free S t = ((m.fl.length + (m.rl.filter (ready t)).length : Nat) : Int) := by
      unfold free
      rw [if_pos ht, h.fl, h.rl]
      omega
    rw [hfree]
    have HA := Lib.hid h.am
    have hn : m.fl.length ≤ 65534 := by rw [h.fl]; have := h.ok.lens; omega
    have h' := h.gr hb0
    have k5 := (cells11 h'.am.row).2.2.2.2.2.1
    obtain ⟨n, hnn⟩ : ∃ n, n = m.fl.length := ⟨_, rfl⟩
    rw [← hnn] at k5 hn ⊢
    have HB0 := Lib.hid hb0
    have HX0 := Lib.hid hx0
    clear C hfree h h' hnn hb0 hx0 ht
    refine (callsIn_wide (n := 0)).1 ?_
    refine callsIn_of_wp_marks Try.func16 rfl trivial ?_ rfl
    simp only [Try.ntmps16, List.size_toArray, List.length_cons, List.length_nil, Nat.reduceAdd, Nat.reduceSub, Array.replicate_succ, Array.replicate_zero, List.push_toArray, List.append_toArray, List.nil_append, List.cons_append]
    gi_wp2_with (refine ⟨trivial, rfl, ?_⟩; refine (callsIn_wide.2 HCK.out).mono ?_; rintro e w1 ⟨rfl, rfl⟩)
    have HQ4 : Hid (Below w.heap.size w ((w.alloc (.cells #[.int .i64 t] 3)).alloc (.cells #[.int .i64 (n : Int)] 3))) := HB0.out.alloc HB0.out.size _
    have H0 : Hid (FQ w t n [] ((w.alloc (.cells #[.int .i64 t] 3)).alloc (.cells #[.int .i64 (n : Int)] 3))) := ⟨Nat.zero_le _, HQ4.out, heap2_0' w _ _, heap2_1' w _ _⟩
    have hsz : w.heap.size + 1 < ((w.alloc (.cells #[.int .i64 t] 3)).alloc (.cells #[.int .i64 (n : Int)] 3)).heap.size := by simp
    generalize (w.alloc (.cells #[.int .i64 t] 3)).alloc (.cells #[.int .i64 (n : Int)] 3) = w4 at HQ4 H0 hsz ⊢
    have hle4 : w.heap.size ≤ w4.heap.size := by omega
    have HSZ := Lib.hid hsz
    clear c0 k5 HCK HX0 HB0 hsz
    refine rangedM (B := w.heap.size) hle4 (gf := 38) (rc := .pointer (some ⟨g, 6, none⟩)) rfl (enters_of Try.func38 (by kernel_rfl) rfl) encR (fun _ => rfl)
      (fun xs _ _ => xs.length < 131071) (FQ w t n) (fun _ _ => False) (MidF w t n) (fun xs => xs = m.rl) (FQ.turns w t n _ hle4) (fun _ _ _ _ _ h _ _ _ => h) (MidF.turns w t n _ hle4) (fun _ _ _ h hq => h.gr hq) H0.out ?assign ?body ?seq ?done ?stop
    case seq =>
      intro lp J Jx W hW hI hJ hY h0
      exact each_r_in lp w.heap.size g W J Jx hJ (fun xs V hV => HA.out.gr (hI _ _ hV).low) (fun xs x V hV hx => hY xs x V hV hx) h0
    case assign =>
      intro lp xs x W hI hG
      have HI := Lib.hid hI
      have HG := Lib.hid hG
      clear hI hG
      simp only [encR, pairV]
      gi_wp2
      have hal : Gr W (W.alloc (.cells #[.int .i64 x.1, .int .i64 x.2] 54)) := (Gr.refl W).alloc _
      have hg : w.heap.size + 1 < W.heap.size := (Array.getElem?_eq_some_iff.1 HI.out.c1).1
      exact ⟨(KeepsOthers.alloc _ _).from _, Below.alloc (Below.refl _ W) HI.out.low.size _, HI.out.gr hal, HG.out, W.heap.size, hg, heap_alloc_last _ _, _, _, _, _, _, _, _, _, _, _, _, _, _, _, _, _, _, _, _, _, _, _, _, _, _, rfl⟩
    case body =>
      rintro lp xs x b W ⟨hI, hG, gx, hgl, hg, t0, t1, t2, t4, t7, t8, t9, t10, t11, t12, t13, t14, t15, t16, t17, t18, t19, t20, t21, t22, t23, t24, t25, t26, t27, rfl⟩
      have HI := Lib.hid hI
      obtain ⟨k0, k1⟩ := cells2 hg
      have b0 : Boxed W w.heap.size 3 (.int .i64 t) := hI.c0
      have b1 : Boxed W (w.heap.size + 1) 3 _ := hI.c1
      have hc0 := b0.cell
      have hc1 := b1.cell
      have hf1 := b1.frozen
      have HB0 := Lib.hid b0
      have HB1 := Lib.hid b1
      have hcnt : (xs.filter (ready t)).length ≤ 131071 := Nat.le_trans (List.length_filter_le _ _) hI.few
      have hfs := filter_snoc (ready t) xs x
      obtain ⟨c, hc⟩ : ∃ c, c = n + (xs.filter (ready t)).length := ⟨_, rfl⟩
      rw [← hc] at hc1
      have x1 : wrap64 ((c : Int) + 1) = (c : Int) + 1 := wrap64_in (by omega) (by omega)
      have HC := Lib.hid hc
      have HG := Lib.hid hG
      have HFS := Lib.hid hfs
      clear hI hG hg b0 b1 hcnt hfs hc
      by_cases hr : x.2 ≤ t
      · have hrd : ready t x = true := decide_eq_true hr
        rw [hrd] at HFS
        have HE : Hid (n + ((xs ++ [x]).filter (ready t)).length = c + 1) := by show _ = _; rw [HFS.out, HC.out]; simp; omega
        clear hrd
        gi_wp2
        have hse := HB1.out.set (.int .i64 ((c : Int) + 1))
        have hb3 : Below w.heap.size W (W.setCell ⟨w.heap.size + 1, 0, none⟩ (.int .i64 ((c : Int) + 1))) := (Below.refl w.heap.size W).setCell (p := ⟨w.heap.size + 1, 0, none⟩) (by show _ ≤ w.heap.size + 1; omega) _
        refine ⟨(KeepsOthers.setCell _ _ _).from _, hb3, ⟨by rw [List.length_append]; have := HG.out; simp; omega, HI.out.low.trans hb3, HB0.out.other (by omega) _, ?_⟩⟩
        rw [HE.out]
        have e : (((c + 1 : Nat) : Int)) = (c : Int) + 1 := by omega
        rw [e]
        exact hse
      · have hrd : ready t x = false := decide_eq_false hr
        rw [hrd] at HFS
        have HE : Hid (n + ((xs ++ [x]).filter (ready t)).length = n + (xs.filter (ready t)).length) := by show _ = _; rw [HFS.out]; simp
        clear hrd
        gi_wp2
        refine ⟨(KeepsOthers.refl _).from _, Below.refl _ _, ⟨by rw [List.length_append]; have := HG.out; simp; omega, HI.out.low, HI.out.c0, ?_⟩⟩
        rw [HE.out]
        exact HI.out.c1
    case done =>
      intro D xs W hD hS hI hK
      have HI := Lib.hid hI
      have b1 : Boxed W (w.heap.size + 1) 3 _ := hI.c1
      have hcl := b1.cell
      subst hS
      have HKK := Lib.hid hK
      clear hI b1 hK
      gi_wp2
      refine ⟨by simp, .inl ⟨_, _, rfl, run_takeDeferred HKK.out, ?_⟩⟩
      exact ⟨_, results_tmp rfl _ _ _, rfl, turns_below hle4 _ D _ (.deferred none) HI.out.low hD HKK.out rfl⟩
    case stop =>
      intro D xs W hD hX hK
      exact hX.elim
  · rw [if_neg ht] at C
    have e : free S t = 0 := by unfold free; rw [if_neg ht]
    rw [e]
    have HCK := Lib.hid C
    have HB0 := Lib.hid hb0
    clear C h ht e hb0 hx0
    go_enter Try.func16, Try.ntmps16
    go_wp2_with fail
    refine HCK.out.mono ?_
    rintro e w' ⟨rfl, rfl⟩
    go_wp2
    go_ret
    exact ⟨rfl, HB0.out⟩
end Go.Proofs.Ytpafcabcnkmadaa.Id
