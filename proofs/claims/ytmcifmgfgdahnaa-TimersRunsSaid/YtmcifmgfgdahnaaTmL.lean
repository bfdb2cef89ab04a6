/-
  slices.SortFunc over timers; SortedFunc; All.
-/
import Derived.Test.YtmcifmgfgdahnaaTmK
namespace Go.Proofs.Ytmcifmgfgdahnaa.Tm
open Go.RowKit
open Go.Proofs.Ytmcifmgfgdahnaa.Id (Tr Tr.refl Tr.gr Tr.only blk own_blk flatR flatR_len flatR_get flatR_cons flatR_append flatR_one flatR_cell RR)
open Go.Sort (SWO PermIn SortedIn flatK HoldsK putRowK get_flatK size_flatK)
open Go.Shelf
set_option linter.unusedVariables false
set_option linter.unusedSimpArgs false

theorem ltOf_cmp (x y : D) : ltOf cmpD x y = decide (lt x y) := by
  unfold ltOf
  by_cases c : lt x y
  · rw [decide_eq_true c, decide_eq_true ((cmpD_lt _ _).2 c)]
  · rw [decide_eq_false c, decide_eq_false fun c' => c ((cmpD_lt _ _).1 c')]
theorem swo_cmp : SWO (ltOf cmpD) where
  irrefl x := by rw [ltOf_cmp]; exact decide_eq_false (lt_irrefl x)
  trans x y z h1 h2 := by rw [ltOf_cmp, decide_eq_true_eq] at *; exact lt_trans h1 h2
  ntrans x y z h1 h2 := by rw [ltOf_cmp, decide_eq_false_iff_not] at *; unfold lt at *; omega
theorem flatK_list (l : List D) : (flatK two 2 l.toArray).toList = flatR l := by
  apply List.ext_getElem?
  intro t
  have hs : (flatK two 2 l.toArray).size = l.length * 2 := by simp
  by_cases h : t < l.length * 2
  · have hi : t / 2 < l.length := by omega
    have g := flatR_get l (t / 2) hi
    have e1 : (flatK two 2 l.toArray).toList[t]? = some ((two l[t / 2])[t % 2]!) := by
      rw [Array.getElem?_toList]
      have := get_flatK two 2 l.toArray t (by simpa using h)
      rw [Array.getElem?_eq_getElem (by omega)]
      rw [getElem!_pos (flatK two 2 l.toArray) t (by omega)] at this
      rw [this]
      congr 2
      simp [hi]
    rw [e1]
    have hm : t % 2 = 0 ∨ t % 2 = 1 := by omega
    rcases hm with hm | hm
    · have e2 : t = t / 2 * 2 := by omega
      rw [hm]
      rw [show (flatR l)[t]? = (flatR l)[t / 2 * 2]? by rw [← e2], g.1]; rfl
    · have e2 : t = t / 2 * 2 + 1 := by omega
      rw [hm]
      rw [show (flatR l)[t]? = (flatR l)[t / 2 * 2 + 1]? by rw [← e2], g.2]; rfl
  · rw [List.getElem?_eq_none (by simp; omega), List.getElem?_eq_none (by rw [flatR_len]; omega)]
theorem holds_row {w : World} {r : Nat} {e : TypeId} {cur : List Value} {q : List D} (hg : w.heap[r]? = some (.cells cur.toArray e (0, 0))) (h4 : cur.take (q.length * 2) = flatR q) : HoldsK two 2 w r 0 q.toArray := by
  intro j hj
  have hj' : j < q.length * 2 := by simpa using hj
  rw [Nat.zero_add]
  refine ⟨?_, frozen_of_row _ _ _ _ _ hg⟩
  have e1 : (flatR q)[j]? = some (flatK two 2 q.toArray)[j]! := by
    rw [← flatK_list, Array.getElem?_toList, Array.getElem?_eq_getElem (by simpa using hj'), getElem!_pos _ j (by simpa using hj')]
  exact own_cell hg h4 e1
theorem sorted_of {q l : List D} {d' : Array D} (hp : PermIn 0 q.toArray.size q.toArray d') (hs : SortedIn (ltOf cmpD) 0 q.toArray.size d') (hl : Srt l) (hql : q.Perm l) (ha : Apart l) : d'.toList = l := by
  obtain ⟨h1, _, h3⟩ := hp
  have hsz : d'.size = q.length := by simpa using h1
  have e1 : d'.toList.Perm q := by
    have : (d'.extract 0 q.toArray.size) = d' := by rw [← h1]; simp
    rw [this] at h3
    simpa using h3
  have hap : Apart d'.toList := ha.perm (hql.symm.trans e1.symm)
  refine Srt.unique ?_ hl (e1.trans hql)
  unfold Srt
  rw [List.pairwise_iff_getElem]
  intro i j hi hj hij
  have hi' : i < d'.size := by simpa using hi
  have hj' : j < d'.size := by simpa using hj
  have h5 := hs i j (Nat.zero_le _) hij (by rw [← h1]; exact hj')
  rw [ltOf_cmp, decide_eq_false_iff_not, getElem!_pos d' j hj', getElem!_pos d' i hi'] at h5
  simp only [Array.getElem_toList]
  refine lt_total h5 fun e => ?_
  have hn := List.pairwise_iff_getElem.1 (show (d'.toList.map (·.1)).Pairwise (· ≠ ·) from hap) i j (by simpa using hi) (by simpa using hj) hij
  simp only [List.getElem_map, Array.getElem_toList] at hn
  exact hn e.symm
/-- What the sort has left. -/
theorem sorted_world {w : World} {r n cap : Nat} {os : Array Obj} {e : TypeId} {cur : List Value} {q l : List D} {d' : Array D} (hl : d'.toList = l) (hq : l.length = q.length) (hg : w.heap[r]? = some (.cells cur.toArray e (0, 0))) (h1 : q.length ≤ cap) (h2 : cap ≤ maxLen) (h3 : cur.length = cap * 2) :
    Rw (sortWorldK two 2 w r 0 n d' os) e (.slice (some ⟨r, 0, none⟩) q.length cap) l ∧ Tr [r] w (sortWorldK two 2 w r 0 n d' os) := by
  obtain rfl : d' = l.toArray := by rw [← hl]
  have hr : r < w.heap.size := (Array.getElem?_eq_some_iff.1 hg).1
  have hsz : (sortWorldK two 2 w r 0 n l.toArray os).heap = (w.heap.modify r (Go.Sort.onCells (Go.Sort.putCells id 0 (flatK two 2 l.toArray)))) ++ os := rfl
  have hgr : (sortWorldK two 2 w r 0 n l.toArray os).heap[r]? = some (.cells (Go.Sort.putCells id 0 (flatK two 2 l.toArray) cur.toArray) e (0, 0)) := by
    rw [hsz, Array.getElem?_append_left (by simpa using hr), Array.getElem?_modify, if_pos rfl, hg]
    rfl
  refine ⟨?_, rfl, rfl, rfl, ?_, fun k hk hn => ?_⟩
  · unfold Rw
    rw [hq]
    refine own_shut (cur := (Go.Sort.putCells id 0 (flatK two 2 l.toArray) cur.toArray).toList) (by simpa using hgr) h1 h2 (by simp [Go.Sort.putCells]; omega) ?_
    rw [← flatK_list]
    apply List.ext_getElem?
    intro j
    rw [List.getElem?_take, Array.getElem?_toList, Array.getElem?_toList]
    by_cases hj : j < q.length * 2
    · rw [if_pos hj, Go.Sort.putCells, Array.getElem?_mapIdx]
      have hc : j < cur.length := by omega
      have hf : j < (flatK two 2 l.toArray).size := by simp; omega
      simp only [List.getElem?_toArray, List.getElem?_eq_getElem hc, Option.map_some, Array.getElem?_eq_getElem hf]
      rw [if_pos (by omega), Nat.sub_zero, getElem!_pos _ j hf]
      rfl
    · rw [if_neg hj, Array.getElem?_eq_none (by simp; omega)]
  · rw [hsz]; simp
  · rw [hsz, Array.getElem?_append_left (by simpa using hk), Array.getElem?_modify, if_neg (fun e => hn (by rw [e]; simp))]
theorem sort_any {v : Value} {q l : List D} (w : World) (h : Rw w 56 v q) (hn : q.length ≤ 65536) (hl : Srt l) (hp : q.Perm l) (ha : Apart l) :
    Calls Try.prog 34 #[v, .func (.func 27) #[] #[]] w fun e w' => e = .returned (.tuple #[]) ∧ Rw w' 56 v l ∧ Tr (blk v) w w' := by
  rcases h.2 with ⟨rfl, h0⟩ | ⟨r, cap, cur, rfl, hb, hg, h1, h2, h3, h4⟩
  · have e : q = [] := List.length_eq_zero_iff.1 h0
    subst e
    obtain rfl : l = [] := List.nil_perm.1 hp
    have hc := AnyF.slices_SortFunc_none sortT none 0 (.func (.func 27) #[] #[]) w
    refine Calls.mono (show Calls Try.prog 34 _ _ _ from hc) fun e w' ⟨he, hw⟩ => ⟨he, ?_⟩
    subst hw
    exact ⟨h, Tr.refl _ _⟩
  · have eg : ∀ args w, (callFunc 27 args).run Try.prog w = .ok (.enter 27 args) w := enters_of Try.func27 (by kernel_rfl) rfl
    have hg' : w.heap[r]? = some (.cells cur.toList.toArray 56 (0, 0)) := by simpa using hg
    have hr : r < w.heap.size := (Array.getElem?_eq_some_iff.1 hg).1
    by_cases h0 : q = []
    · subst h0
      obtain rfl : l = [] := List.nil_perm.1 hp
      have hc := AnyF.slices_SortFunc_none sortT (some ⟨r, 0, none⟩) cap (.func (.func 27) #[] #[]) w
      refine Calls.mono (show Calls Try.prog 34 _ _ _ from hc) fun e w' ⟨he, hw⟩ => ⟨he, ?_⟩
      subst hw
      exact ⟨h, Tr.refl _ _⟩
    · have hc := AnyQ.slices_SortFunc sortT 2 Try.isAgg56 Try.sizeOf56 two (fun _ => rfl) two_cell cmpD swo_cmp 27 #[] r 0 cap q.toArray w eg (fun m os dk _ x y => compare_any x y _) (holds_row hg' h4) hr (by simp; omega)
      refine Calls.mono (show Calls Try.prog 34 #[.slice (some ⟨r, 0, none⟩) q.length cap, .func (.func 27) #[] #[]] w _ from hc) fun e w' ⟨he, d', n, os, h5, h6, hw⟩ => ⟨he, ?_⟩
      subst hw
      exact sorted_world (sorted_of h5 h6 hl hp ha) hp.length_eq.symm hg' h1 h2 (by simpa using h3)
theorem own_base {w : World} {base n size : Nat} {e : TypeId} {v : Value} {xs : List Value} (h : w.ownsRow 0 e size v n xs) (hb : ∀ k ∈ blk v, base ≤ k) : w.ownsRow base e size v n xs := by
  refine ⟨h.1, ?_⟩
  rcases h.2 with h | ⟨g, cap, cur, rfl, _, h2⟩
  · exact .inl h
  · exact .inr ⟨g, cap, cur, rfl, hb g (List.mem_singleton.2 rfl), h2⟩
theorem sorted_any (bx : Nat) {v : Value} {q l : List D} (w : World) (h : Rw w 56 v q) (hn : q.length ≤ 65536) (hbox : w.heap[bx]? = some (.cells #[v] 58 (0, 0))) (hl : Srt l) (hp : q.Perm l) (ha : Apart l) :
    Calls Try.prog 25 #[.func (.func 35) #[] #[.pointer (some ⟨bx, 0, none⟩)], .func (.func 27) #[] #[]] w fun e w' => ∃ v', e = .returned v' ∧ w'.ownsRow w.heap.size 56 2 v' l.length (flatR l) ∧ Below w.heap.size w w' := by
  have HC := Lib.hid (collect_t bx w h hn hbox)
  have HL : Hid (Srt l ∧ q.Perm l ∧ Apart l ∧ q.length ≤ 65536) := ⟨hl, hp, ha, hn⟩
  clear h hbox hl hp ha hn
  go_enter Try.func25, Try.ntmps25
  go_wp2_with fail
  refine HC.out.mono ?_
  rintro e w1 ⟨v1, rfl, ho, hb⟩
  have HO := Lib.hid ho
  have HB := Lib.hid hb
  have HS := Lib.hid (sort_any (l := l) w1 (ownsRow_mono ho (Nat.zero_le _)) HL.out.2.2.2 HL.out.1 HL.out.2.1 HL.out.2.2.1)
  clear ho hb HC
  go_wp2_with fail
  refine HS.out.mono ?_
  rintro e w2 ⟨rfl, hr, ht⟩
  have HR := Lib.hid hr
  have HT := Lib.hid ht
  clear hr ht HS
  go_wp2_with fail
  go_ret
  exact ⟨_, rfl, own_base HR.out fun k hk => (own_blk HO.out k hk).1, Tr.below HB.out HB.out.size HT.out fun k hk => (own_blk HO.out k hk).1⟩
set_option maxRecDepth 20000 in
set_option maxHeartbeats 4000000 in
theorem tall_any {p g : Nat} {v : Value} {b : Nat} {l : List D} (w : World) (h : TM w p g v b l) :
    Calls Try.prog 18 #[.pointer (some ⟨p, 0, none⟩)] w fun e w' => ∃ dv, e = .returned dv ∧ w'.ownsRow w.heap.size 40 2 dv l.length (flatR l) ∧ Below w.heap.size w w' := by
  obtain ⟨i0, hi, hz0, hz1, hz2⟩ := info_parts infoD
  have HM := Lib.hid (isMade_yes p g w h.row)
  have HROW := Lib.hid h.row
  have k0 := cell1 h.row
  have HFEW := Lib.hid h.few
  have HA := Lib.hid h.apart
  have HSR := Lib.hid h.srt
  obtain ⟨q, hq, hp⟩ := h.heap
  have HP := Lib.hid hp
  obtain ⟨⟨f, hq1, _⟩, _⟩ := hq
  obtain ⟨A, C, ev, hc1, hc2⟩ := hq1.own.rr.shape
  obtain ⟨L, hL⟩ : ∃ L, L = q.length := ⟨_, rfl⟩
  have HL := Lib.hid hL
  rw [← hL] at ev
  subst ev
  have HQR := Lib.hid hq1.row
  have HQO := Lib.hid hq1.own
  have HQF := Lib.hid hq1.few.1
  clear h hp hq1 hc1 hc2 hL
  go_enter Try.func18, Try.ntmps18
  go_wp2_with fail
  refine HM.out.mono ?_
  rintro e w' ⟨rfl, rfl⟩
  go_upto_region 4 with fail
  clear k0
  have HC : Hid (Gr w w.drew) := Gr.drew w
  refine wp_region_G 18 Gr (by kernel_rfl) ?_
  generalize w.drew = wc at HC ⊢
  -- 0: slot 9
  refine wpG_take preGr (i := 0) (v := ?_) (by kernel_rfl) (some 9) (by kernel_rfl) rfl (by kernel_rfl) (by kernel_rfl) (by kernel_rfl) (fun _ _ _ h => h) (by rfl) (fun w' hw' => ?_) rfl ?_
  rotate_left
  · try (have k0 := cell1 (heap_gr (Gr.trans HC.out hw') HROW.out))
    try (have hxx := cellsQ (heap_gr (Gr.trans HC.out hw') HQR.out); obtain ⟨c0, c1, c2⟩ := hxx)
    go_simp
    with_reducible rfl
  simp only [Act.put, List.setIfInBounds_toArray, List.set_cons_zero, List.set_cons_succ]
  -- 1: slot 10
  refine wpG_take preGr (i := 1) (v := ?_) (by kernel_rfl) (some 10) (by kernel_rfl) rfl (by kernel_rfl) (by kernel_rfl) (by kernel_rfl) (fun _ _ _ h => h) (by rfl) (fun w' hw' => ?_) rfl ?_
  rotate_left
  · try (have k0 := cell1 (heap_gr (Gr.trans HC.out hw') HROW.out))
    try (have hxx := cellsQ (heap_gr (Gr.trans HC.out hw') HQR.out); obtain ⟨c0, c1, c2⟩ := hxx)
    go_simp
    with_reducible rfl
  simp only [Act.put, List.setIfInBounds_toArray, List.set_cons_zero, List.set_cons_succ]
  -- 2: slot 11
  refine wpG_take preGr (i := 2) (v := ?_) (by kernel_rfl) (some 11) (by kernel_rfl) rfl (by kernel_rfl) (by kernel_rfl) (by kernel_rfl) (fun _ _ _ h => h) (by rfl) (fun w' hw' => ?_) rfl ?_
  rotate_left
  · try (have k0 := cell1 (heap_gr (Gr.trans HC.out hw') HROW.out))
    try (have hxx := cellsQ (heap_gr (Gr.trans HC.out hw') HQR.out); obtain ⟨c0, c1, c2⟩ := hxx)
    go_simp
    with_reducible rfl
  simp only [Act.put, List.setIfInBounds_toArray, List.set_cons_zero, List.set_cons_succ]
  -- 3: slot 12
  refine wpG_take preGr (i := 3) (v := ?_) (by kernel_rfl) (some 12) (by kernel_rfl) rfl (by kernel_rfl) (by kernel_rfl) (by kernel_rfl) (fun _ _ _ h => h) (by rfl) (fun w' hw' => ?_) rfl ?_
  rotate_left
  · try (have k0 := cell1 (heap_gr (Gr.trans HC.out hw') HROW.out))
    try (have hxx := cellsQ (heap_gr (Gr.trans HC.out hw') HQR.out); obtain ⟨c0, c1, c2⟩ := hxx)
    go_simp
    with_reducible rfl
  simp only [Act.put, List.setIfInBounds_toArray, List.set_cons_zero, List.set_cons_succ]
  -- 4: slot 13
  refine wpG_take preGr (i := 4) (v := ?_) (by kernel_rfl) (some 13) (by kernel_rfl) rfl (by kernel_rfl) (by kernel_rfl) (by kernel_rfl) (fun _ _ _ h => h) (by rfl) (fun w' hw' => ?_) rfl ?_
  rotate_left
  · try (have k0 := cell1 (heap_gr (Gr.trans HC.out hw') HROW.out))
    try (have hxx := cellsQ (heap_gr (Gr.trans HC.out hw') HQR.out); obtain ⟨c0, c1, c2⟩ := hxx)
    go_simp
    with_reducible rfl
  simp only [Act.put, List.setIfInBounds_toArray, List.set_cons_zero, List.set_cons_succ]
  -- 5: slot 14
  refine wpG_take preGr (i := 5) (v := ?_) (by kernel_rfl) (some 14) (by kernel_rfl) rfl (by kernel_rfl) (by kernel_rfl) (by kernel_rfl) (fun _ _ _ h => h) (by rfl) (fun w' hw' => ?_) rfl ?_
  rotate_left
  · try (have k0 := cell1 (heap_gr (Gr.trans HC.out hw') HROW.out))
    try (have hxx := cellsQ (heap_gr (Gr.trans HC.out hw') HQR.out); obtain ⟨c0, c1, c2⟩ := hxx)
    go_simp
    with_reducible rfl
  simp only [Act.put, List.setIfInBounds_toArray, List.set_cons_zero, List.set_cons_succ]
  -- 6: slot 15
  refine wpG_take preGr (i := 6) (v := ?_) (by kernel_rfl) (some 15) (by kernel_rfl) rfl (by kernel_rfl) (by kernel_rfl) (by kernel_rfl) (fun _ _ _ h => h) (by rfl) (fun w' hw' => ?_) rfl ?_
  rotate_left
  · try (have k0 := cell1 (heap_gr (Gr.trans HC.out hw') HROW.out))
    try (have hxx := cellsQ (heap_gr (Gr.trans HC.out hw') HQR.out); obtain ⟨c0, c1, c2⟩ := hxx)
    go_simp
    with_reducible rfl
  simp only [Act.put, List.setIfInBounds_toArray, List.set_cons_zero, List.set_cons_succ]
  -- 8: slot 17
  refine wpG_take preGr (i := 8) (v := ?_) (by kernel_rfl) (some 17) (by kernel_rfl) rfl (by kernel_rfl) (by kernel_rfl) (by kernel_rfl) (fun _ _ _ h => h) (by rfl) (fun w' hw' => ?_) rfl ?_
  rotate_left
  · try (have k0 := cell1 (heap_gr (Gr.trans HC.out hw') HROW.out))
    try (have hxx := cellsQ (heap_gr (Gr.trans HC.out hw') HQR.out); obtain ⟨c0, c1, c2⟩ := hxx)
    go_simp
    with_reducible rfl
  simp only [Act.put, List.setIfInBounds_toArray, List.set_cons_zero, List.set_cons_succ]
  -- 9: slot 18
  refine wpG_take preGr (i := 9) (v := ?_) (by kernel_rfl) (some 18) (by kernel_rfl) rfl (by kernel_rfl) (by kernel_rfl) (by kernel_rfl) (fun _ _ _ h => h) (by rfl) (fun w' hw' => ?_) rfl ?_
  rotate_left
  · try (have k0 := cell1 (heap_gr (Gr.trans HC.out hw') HROW.out))
    try (have hxx := cellsQ (heap_gr (Gr.trans HC.out hw') HQR.out); obtain ⟨c0, c1, c2⟩ := hxx)
    go_simp
    with_reducible rfl
  simp only [Act.put, List.setIfInBounds_toArray, List.set_cons_zero, List.set_cons_succ]
  -- 10: slot 19
  refine wpG_take preGr (i := 10) (v := ?_) (by kernel_rfl) (some 19) (by kernel_rfl) rfl (by kernel_rfl) (by kernel_rfl) (by kernel_rfl) (fun _ _ _ h => h) (by rfl) (fun w' hw' => ?_) rfl ?_
  rotate_left
  · try (have k0 := cell1 (heap_gr (Gr.trans HC.out hw') HROW.out))
    try (have hxx := cellsQ (heap_gr (Gr.trans HC.out hw') HQR.out); obtain ⟨c0, c1, c2⟩ := hxx)
    go_simp
    with_reducible rfl
  simp only [Act.put, List.setIfInBounds_toArray, List.set_cons_zero, List.set_cons_succ]
  -- 11: slot 20
  refine wpG_take preGr (i := 11) (v := ?_) (by kernel_rfl) (some 20) (by kernel_rfl) rfl (by kernel_rfl) (by kernel_rfl) (by kernel_rfl) (fun _ _ _ h => h) (by rfl) (fun w' hw' => ?_) rfl ?_
  rotate_left
  · try (have k0 := cell1 (heap_gr (Gr.trans HC.out hw') HROW.out))
    try (have hxx := cellsQ (heap_gr (Gr.trans HC.out hw') HQR.out); obtain ⟨c0, c1, c2⟩ := hxx)
    go_simp
    with_reducible rfl
  simp only [Act.put, List.setIfInBounds_toArray, List.set_cons_zero, List.set_cons_succ]
  -- 12: slot 21
  refine wpG_take preGr (i := 12) (v := ?_) (by kernel_rfl) (some 21) (by kernel_rfl) rfl (by kernel_rfl) (by kernel_rfl) (by kernel_rfl) (fun _ _ _ h => h) (by rfl) (fun w' hw' => ?_) rfl ?_
  rotate_left
  · try (have k0 := cell1 (heap_gr (Gr.trans HC.out hw') HROW.out))
    try (have hxx := cellsQ (heap_gr (Gr.trans HC.out hw') HQR.out); obtain ⟨c0, c1, c2⟩ := hxx)
    go_simp
    with_reducible rfl
  simp only [Act.put, List.setIfInBounds_toArray, List.set_cons_zero, List.set_cons_succ]
  -- 13: slot 22
  refine wpG_take preGr (i := 13) (v := ?_) (by kernel_rfl) (some 22) (by kernel_rfl) rfl (by kernel_rfl) (by kernel_rfl) (by kernel_rfl) (fun _ _ _ h => h) (by rfl) (fun w' hw' => ?_) rfl ?_
  rotate_left
  · try (have k0 := cell1 (heap_gr (Gr.trans HC.out hw') HROW.out))
    try (have hxx := cellsQ (heap_gr (Gr.trans HC.out hw') HQR.out); obtain ⟨c0, c1, c2⟩ := hxx)
    go_simp
    with_reducible rfl
  simp only [Act.put, List.setIfInBounds_toArray, List.set_cons_zero, List.set_cons_succ]
  -- 14: slot 23
  refine wpG_take preGr (i := 14) (v := ?_) (by kernel_rfl) (some 23) (by kernel_rfl) rfl (by kernel_rfl) (by kernel_rfl) (by kernel_rfl) (fun _ _ _ h => h) (by rfl) (fun w' hw' => ?_) rfl ?_
  rotate_left
  · try (have k0 := cell1 (heap_gr (Gr.trans HC.out hw') HROW.out))
    try (have hxx := cellsQ (heap_gr (Gr.trans HC.out hw') HQR.out); obtain ⟨c0, c1, c2⟩ := hxx)
    go_simp
    with_reducible rfl
  simp only [Act.put, List.setIfInBounds_toArray, List.set_cons_zero, List.set_cons_succ]
  -- 17: slot 26
  refine wpG_take preGr (i := 17) (v := ?_) (by kernel_rfl) (some 26) (by kernel_rfl) rfl (by kernel_rfl) (by kernel_rfl) (by kernel_rfl) (fun _ _ _ h => h) (by rfl) (fun w' hw' => ?_) rfl ?_
  rotate_left
  · try (have k0 := cell1 (heap_gr (Gr.trans HC.out hw') HROW.out))
    try (have hxx := cellsQ (heap_gr (Gr.trans HC.out hw') HQR.out); obtain ⟨c0, c1, c2⟩ := hxx)
    go_simp
    with_reducible rfl
  simp only [Act.put, List.setIfInBounds_toArray, List.set_cons_zero, List.set_cons_succ]
  refine wpG_one (i := 7) rfl (by kernel_rfl) (by rfl) ?_
  go_simp
  refine (values_any A L C wc).mono ?_
  rintro e wn ⟨rfl, rfl⟩
  have hb : Gr wc (wc.alloc (.cells #[.slice A L C] 58)) := (Below.refl _ _).alloc (Nat.le_refl _) _
  refine ⟨hb, ?_⟩
  have HBX : Hid ((wc.alloc (.cells #[.slice A L C] 58)).heap[wc.heap.size]? = some (.cells #[.slice A L C] 58 (0, 0))) := heap_alloc_last _ _
  have HC' : Hid (Gr w (wc.alloc (.cells #[.slice A L C] 58))) := Gr.trans HC.out hb
  clear HC hb
  have HC := HC'
  clear HC'
  try simp only [Act.put, List.setIfInBounds_toArray, List.set_cons_zero, List.set_cons_succ]
  refine wpG_one (i := 15) rfl (by kernel_rfl) (by rfl) ?_
  go_simp
  refine (sorted_any wc.heap.size _ (own_keep HQO.out fun k hk => HC.out.block k (own_blk_lt HQO.out hk)) HQF.out HBX.out HSR.out HP.out HA.out).mono ?_
  rintro e wn ⟨v1, rfl, ho, hb⟩
  refine ⟨hb, ?_⟩
  obtain ⟨A1, C1, rfl, hc1, hc2⟩ : ∃ A1 C1, v1 = .slice A1 l.length C1 ∧ l.length ≤ C1 ∧ C1 ≤ maxLen := by
    obtain ⟨_, A1, C1, e1, h1, h2, _⟩ := own_rd ho
    exact ⟨A1, C1, e1, h1, h2⟩
  have HO := Lib.hid ho
  have HC' : Hid (Gr w wn) := Gr.trans HC.out hb
  clear HC hb ho HBX
  have HC := HC'
  clear HC'
  try simp only [Act.put, List.setIfInBounds_toArray, List.set_cons_zero, List.set_cons_succ]
  -- 16: slot 25
  refine wpG_take preGr (i := 16) (v := ?_) (by kernel_rfl) (some 25) (by kernel_rfl) rfl (by kernel_rfl) (by kernel_rfl) (by kernel_rfl) (fun _ _ _ h => h) (by rfl) (fun w' hw' => ?_) rfl ?_
  rotate_left
  · try (have k0 := cell1 (heap_gr (Gr.trans HC.out hw') HROW.out))
    try (have hxx := cellsQ (heap_gr (Gr.trans HC.out hw') HQR.out); obtain ⟨c0, c1, c2⟩ := hxx)
    go_simp
    with_reducible rfl
  simp only [Act.put, List.setIfInBounds_toArray, List.set_cons_zero, List.set_cons_succ]
  refine wpG_done (by kernel_rfl) ?_ _
  obtain ⟨n, hn⟩ : ∃ n, n = l.length := ⟨_, rfl⟩
  rw [← hn] at HO ⊢
  have hn65 : n ≤ 65536 := by rw [hn]; exact HFEW.out
  have HN := Lib.hid hn
  have HRD0 := Lib.hid (own_rd HO.out)
  have HS : Hid (wn.ownsRow w.heap.size 40 2 (.slice none 0 0) 0 (flatR (l.take 0))) := World.ownsRow_nil _ _ _ 2
  have HBW : Hid (Below w.heap.size w wn) := HC.out
  have HO0 : Hid (wn.ownsRow 0 56 2 (.slice A1 n C1) n (flatR l)) := ownsRow_mono HO.out (Nat.zero_le _)
  clear hn hc1 hc2 HO HC
  go_wp2_with fail
  go_loopw [3, 26] (fun lv iv wr => ∃ i : Nat, i ≤ n ∧ iv = .int .i64 (i : Int) ∧ wr.ownsRow w.heap.size 40 2 lv i (flatR (l.take i)) ∧ wr.ownsRow 0 56 2 (.slice A1 n C1) n (flatR l) ∧ Below w.heap.size w wr) (fun _ iv _ => n - (intOf iv).toNat)
  case atStart => exact ⟨0, Nat.zero_le _, rfl, HS.out, HO0.out, HBW.out⟩
  case round =>
    clear HS HO0 HBW
    obtain ⟨i, hin, rfl, ho, hso, hbw⟩ := hrel
    have HO := Lib.hid ho
    have HSO := Lib.hid hso
    have HBW := Lib.hid hbw
    obtain ⟨A3, C3, rfl⟩ : ∃ A3 C3, u3 = .slice A3 i C3 := by
      obtain ⟨_, A3, C3, e1, _⟩ := own_rd ho
      exact ⟨A3, C3, e1⟩
    clear ho hso hbw
    by_cases hlt : i < n
    · have hil : i < l.length := by rw [← HN.out]; exact hlt
      have hrr := own_rd HSO.out
      have hrr2 : RR wr (.slice A1 n C1) l := by unfold RR; rw [← HN.out]; exact hrr
      obtain ⟨b1, o1, ea, _, hcel⟩ := RR.cells hrr2 (by omega)
      subst ea
      obtain ⟨x, hx⟩ : ∃ x, x = l[i] := ⟨_, rfl⟩
      obtain ⟨c0, c1⟩ := hcel i hil
      rw [← hx] at c0 c1
      have HX : Hid (flatR (l.take i) ++ two x = flatR (l.take (i + 1))) := by show _ = _; rw [List.take_add_one, List.getElem?_eq_getElem hil, hx, flatR_append]; rfl
      have HBY : Hid ((i + 1) * 16 ≤ 140737488355328) := by show _ ≤ _; omega
      have hle : i + 1 ≤ n := by omega
      have HB1 : Hid (Gr wr (wr.alloc (.cells #[.int .i64 x.1, .int .i64 x.2] 56))) := (Below.refl _ _).alloc (Nat.le_refl _) _
      clear hrr hrr2 hcel hx hil
      go_upto_region 7 with fail
      have HF : Hid ((wr.alloc (.cells #[.int .i64 x.1, .int .i64 x.2] 56)).heap[wr.heap.size]? = some (.cells #[.int .i64 x.1, .int .i64 x.2] 56 (0, 0))) := heap_alloc_last _ _
      clear c0 c1
      generalize wr.alloc (.cells #[.int .i64 x.1, .int .i64 x.2] 56) = w2 at HB1 HF ⊢
      obtain ⟨c0, c1⟩ := copy_cells HF.out
      have HB2 : Hid (Gr w2 (w2.alloc (.cells #[.int .i64 x.1, .int .i64 x.2] 40))) := (Below.refl _ _).alloc (Nat.le_refl _) _
      have HXR : Hid (Rd (w2.alloc (.cells #[.int .i64 x.1, .int .i64 x.2] 40)) 2 (.slice (some ⟨w2.heap.size, 0, none⟩) 1 1) 1 (two x)) := rd_new w2 (two x) 40 1 2 rfl (by decide)
      have HBB : Hid (Gr wr (w2.alloc (.cells #[.int .i64 x.1, .int .i64 x.2] 40))) := Gr.trans HB1.out HB2.out
      have HO2 := Lib.hid (ownsRow_below HO.out HBB.out)
      have HSO2 := Lib.hid (ownsRow_below HSO.out HBB.out)
      have HBW2 : Hid (Below w.heap.size w (w2.alloc (.cells #[.int .i64 x.1, .int .i64 x.2] 40))) := HBW.out.trans (Below.mono HBB.out HBW.out.size)
      clear HF HB1 HB2 HO HSO HBW
      go_wp2_with (at_builtin; refine wpList_append_gr _ rfl (.tmp 30) (.tmp 32) 26 rfl w.heap.size 40 i0 _ 2 16 Try.underlying26 hi hz0 hz1 hz2 rfl (by decide) _ i _ rfl HO2.out _ 1 (two x) rfl HXR.out (two_cell x) HBY.out (by decide) HBW2.out.size ?_)
      intro lv5 w5 ho5 hg5
      have HO5 : Hid (w5.ownsRow w.heap.size 40 2 lv5 (i + 1) (flatR (l.take (i + 1)))) := by
        have h := ho5
        rw [HX.out] at h
        exact h
      have HSO5 : Hid (w5.ownsRow 0 56 2 (.slice (some ⟨b1, o1, none⟩) n C1) n (flatR l)) := World.ownsRow.kept HSO2.out hg5 (own_ne_block HSO2.out HO2.out (by decide))
      have HBW5 : Hid (Below w.heap.size w w5) := HBW2.out.trans (grown_below HO2.out HBW2.out.size hg5)
      clear ho5 hg5 c0 c1 HXR HBB HO2 HSO2 HBW2
      go_wp2_with fail
      go_roundw
      case rel =>
        first
          | exact ⟨i + 1, hle, by go_num, HO5.out, HSO5.out, HBW5.out⟩
          | ((repeat apply Exists.intro); exact ⟨⟨i + 1, hle, by go_num, HO5.out, HSO5.out, HBW5.out⟩, rfl⟩)
      case measure => simp [intOf]; omega
    · have e : i = n := by omega
      subst e
      have HE : Hid (l.take i = l) := List.take_of_length_le (by rw [← HN.out]; exact Nat.le_refl _)
      go_wp2_with fail
      go_ret
      refine ⟨_, rfl, ?_, HBW.out⟩
      have h := HO.out
      rw [HE.out] at h
      rw [← HN.out]
      exact h
end Go.Proofs.Ytmcifmgfgdahnaa.Tm
