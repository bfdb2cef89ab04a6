/-
  nego's taught: which places come first is gathered in a map, behind a range over slices.Backward.
-/
import Derived.Test.YtbldcjngccmhpaaNgJ
import Derived.Test.YtbldcjngccmhpaaNgF
namespace Go.Proofs.Ytbldcjngccmhpaa.Ng
open Go.RowKit Go.Shelf O
set_option linter.unusedVariables false
set_option linter.unusedSimpArgs false
/-- The first place of each type. -/
def fIdx : List Tg → Nat → Int → Option Nat
  | [], _ => fun _ => none
  | t :: l, i => upd (fIdx l (i + 1)) t.typ (some i)
theorem fIdx_drop (ts : List Tg) (i : Nat) (h : i < ts.length) : fIdx (ts.drop i) i = upd (fIdx (ts.drop (i + 1)) (i + 1)) ts[i].typ (some i) := by
  rw [List.drop_eq_getElem_cons h]; rfl
theorem fIdx_spec : ∀ (l : List Tg) (off : Nat) (k : Int), (fIdx l off k = none ∧ (plain l).find? (fun x => decide (x.1 = k)) = none) ∨
    ∃ (i : Nat) (h : i < l.length), fIdx l off k = some (off + i) ∧ l[i].typ = k ∧ (plain l).find? (fun x => decide (x.1 = k)) = some l[i].plain
  | [], _, _ => .inl ⟨rfl, rfl⟩
  | t :: l, off, k => by
    by_cases e : t.typ = k
    · refine .inr ⟨0, by simp, ?_, e, ?_⟩
      · show upd _ _ _ _ = _
        unfold upd
        rw [if_pos e.symm]; rfl
      · show (t.plain :: plain l).find? _ = _
        rw [List.find?_cons, show decide (t.plain.1 = k) = true from decide_eq_true e]; rfl
    · have e1 : fIdx (t :: l) off k = fIdx l (off + 1) k := by
        show upd _ _ _ _ = _
        unfold upd
        rw [if_neg (fun h => e h.symm)]
      have e2 : (plain (t :: l)).find? (fun x => decide (x.1 = k)) = (plain l).find? (fun x => decide (x.1 = k)) := by
        show (t.plain :: plain l).find? _ = _
        rw [List.find?_cons, show decide (t.plain.1 = k) = false from decide_eq_false e]
      rw [e1, e2]
      rcases fIdx_spec l (off + 1) k with h | ⟨i, h, h1, h2, h3⟩
      · exact .inl h
      · exact .inr ⟨i + 1, by simpa using h, by rw [h1]; congr 1; omega, h2, h3⟩

set_option maxRecDepth 20000 in
set_option maxHeartbeats 2000000 in
theorem taught1_any (gm gl mb cnt : Nat) (la : Option Addr) (ln lc : Nat) (ts : List Tg) (T : Int) (A : Option Addr) (L C : Nat) (l : List UInt8) (hl : l.length = L) (hL : L ≤ 1000) (w : World) (hb : Bs w (.slice A L C) l) (hT : I64 T)
    (hr : TR w (.slice la ln lc) ln ts) (hm : ∀ x ∈ ts, x.l.length ≤ 1000) (hgm : w.heap[gm]? = some (.cells #[.map (some mb)] 69)) (hgl : w.heap[gl]? = some (.cells #[.slice la ln lc] 23)) (hfm : FM w mb (fIdx ts 0) cnt) :
    Calls Try.prog 52 #[.agg #[.int .i64 T, .slice A L C], .pointer (some ⟨gm, 0, none⟩), .pointer (some ⟨gl, 0, none⟩)] w fun e w' => Tells (some (takeOver (plain ts) (T, l))) w' e ∧ OB none w w' := by
  have hal : Gr w ((w.alloc (.cells #[.int .i64 T, .slice A L C] 42)).alloc (.cells #[.int .i64 0, .slice none 0 0] 42)) := ((Gr.refl w).alloc _).alloc _
  have HAL := Lib.hid hal
  have HG0 : Hid (((w.alloc (.cells #[.int .i64 T, .slice A L C] 42)).alloc (.cells #[.int .i64 0, .slice none 0 0] 42)).heap[w.heap.size]? = some (.cells #[.int .i64 T, .slice A L C] 42)) := heap2_0' _ _ _
  have HG1 : Hid (((w.alloc (.cells #[.int .i64 T, .slice A L C] 42)).alloc (.cells #[.int .i64 0, .slice none 0 0] 42)).heap[w.heap.size + 1]? = some (.cells #[.int .i64 0, .slice none 0 0] 42)) := heap2_1' _ _ _
  obtain ⟨k0, k1⟩ := copy_cells HG0.out
  have km := cell1 (heap_gr hal hgm)
  have kl := cell1 (heap_gr hal hgl)
  have lk := (hfm.below hal).look hT
  have HB := Lib.hid hb
  have HR := Lib.hid (hr.below hal)
  have HM := Lib.hid hm
  have hln := hr.len
  have hlc : ln ≤ lc ∧ lc ≤ maxLen := by
    obtain ⟨_, _, es, h1, h2⟩ := hr.shape
    simp only [Value.slice.injEq] at es
    obtain ⟨_, _, rfl⟩ := es
    exact ⟨h1, h2⟩
  obtain ⟨hc1, hc2⟩ := hlc
  unfold maxLen at hc2
  rcases fIdx_spec ts 0 T with ⟨e1, e2⟩ | ⟨i, hi, e1, e2, e3⟩
  · rw [e1] at lk
    simp only [Option.getD_none, Option.isSome_none] at lk
    have HOUT : Hid (takeOver (plain ts) (T, l) = (T, l)) := by
      show _ = _
      unfold takeOver
      rw [e2]
    clear hal hb hr hm hgm hgl hfm e1 e2 hT
    go_enter Try.func52, Try.ntmps52
    go_wp2_with (refine wpList_store_whole rfl 42 (.tmp 4) (.tmp 20) rfl (w.heap.size + 1) [.int .i64 T, .slice A L C] rfl rfl 42 [.int .i64 0, .slice none 0 0] HG1.out O.sizeT rfl (O.one_tag _ rfl) ?_)
    intro w3 h3 ho3
    have H3 := Lib.hid h3
    have HB3 : Hid (Below w.heap.size w w3) := ho3.below _ _ (Nat.le_succ _) HAL.out
    clear h3 ho3
    go_wp2
    refine bodyPost_ret (v := .tuple #[.agg #[.int .i64 T, .slice A L C], .bool true]) (results_cell_tmp_row (P := Try.prog) (fn := Try.f52) rfl _ _ (w.heap.size + 1) 42 _ (0, 0) _ rfl H3.out Try.underlying42 rfl (by kernel_rfl)) rfl ?_
    exact ⟨⟨T, A, L, C, true, l, rfl, by rw [HOUT.out]; rfl, fun _ => ⟨hl, hL, HB.out.below HB3.out⟩⟩, HB3.out⟩
  · rw [e1, Nat.zero_add] at lk
    simp only [Option.getD_some, Option.isSome_some] at lk
    have HOUT : Hid (takeOver (plain ts) (T, l) = (T, ts[i].l)) := by
      show _ = _
      unfold takeOver
      rw [e3]
      rfl
    obtain ⟨b, o, ea, _, hcel⟩ := HR.out.cells (by omega)
    subst ea
    obtain ⟨c0, c1⟩ := hcel i hi
    have HV := Lib.hid (hr.val i hi)
    have hi2 : i < ln := by omega
    have hi3 : (i : Int) < (ln : Int) := by omega
    rw [e2] at c0
    obtain ⟨A2, L2, C2, hv, hL2, hLC, hCm⟩ := HV.out.sl
    rw [hv] at c1
    have HE := Lib.hid hv
    have HL2 : Hid (ts[i].l.length = L2) := hL2
    have HLM : Hid (ts[i].l.length ≤ 1000) := HM.out _ (List.getElem_mem hi)
    have HRA : Hid (((w.alloc (.cells #[.int .i64 T, .slice A L C] 42)).alloc (.cells #[.int .i64 0, .slice none 0 0] 42)).rangeAt b (o + i * 2) [.int .i64 T, .slice A2 L2 C2]) := by
      intro j u hj
      match j, hj with
      | 0, hj => obtain rfl := Option.some.inj hj; exact c0
      | 1, hj => obtain rfl := Option.some.inj hj; exact c1
    clear hal hb hr hm hgm hgl hfm e1 e2 e3 hT hcel hv hL2 hLC hCm
    go_enter Try.func52, Try.ntmps52
    go_wp2_with (first | (with_reducible refine wpList_load_mid rfl 42 (.tmp 18) rfl b (o + i * 2) rfl [.int .i64 T, .slice A2 L2 C2] _ HRA.out Try.underlying42 rfl sizeT ?_) | (refine wpList_store_whole rfl 42 (.tmp 4) (.tmp 19) rfl (w.heap.size + 1) [.int .i64 T, .slice A2 L2 C2] rfl rfl 42 [.int .i64 0, .slice none 0 0] HG1.out O.sizeT rfl (O.one_tag _ rfl) ?_))
    intro w3 h3 ho3
    have H3 := Lib.hid h3
    have HB3 : Hid (Below w.heap.size w w3) := ho3.below _ _ (Nat.le_succ _) HAL.out
    have HV3 : Hid (Bs w3 (.slice A2 L2 C2) ts[i].l) := by
      have h1 := HV.out.below HB3.out
      rwa [HE.out] at h1
    clear h3 ho3
    go_wp2
    refine bodyPost_ret (v := .tuple #[.agg #[.int .i64 T, .slice A2 L2 C2], .bool true]) (results_cell_tmp_row (P := Try.prog) (fn := Try.f52) rfl _ _ (w.heap.size + 1) 42 _ (0, 0) _ rfl H3.out Try.underlying42 rfl (by kernel_rfl)) rfl ?_
    exact ⟨⟨T, A2, L2, C2, true, ts[i].l, rfl, by rw [HOUT.out]; rfl, fun _ => ⟨HL2.out, by rw [← HL2.out]; exact HLM.out, HV3.out⟩⟩, HB3.out⟩

/-- Between two rounds. -/
structure TI (w : World) (la : Option Addr) (ln lc : Nat) (ts : List Tg) (xs : List (Nat × Tg)) (W : World) : Prop where
  few : xs.length ≤ ts.length
  low : Below w.heap.size w W
  c0 : W.heap[w.heap.size]? = some (.cells #[.slice la ln lc] 23)
  c3 : W.heap[w.heap.size + 3]? = some (.cells #[.slice la ln lc] 23)
  c2 : W.heap[w.heap.size + 2]? = some (.cells #[.map (some (w.heap.size + 1))] 69 (0, 0))
  fm : ∃ cnt, cnt ≤ xs.length ∧ FM W (w.heap.size + 1) (fIdx (ts.drop (ts.length - xs.length)) (ts.length - xs.length)) cnt
theorem TI.turns (w : World) (la : Option Addr) (ln lc : Nat) (ts : List Tg) (B : Nat) (hB : w.heap.size + 3 ≤ B) (xs : List (Nat × Tg)) : Turns B (TI w la ln lc ts xs) := fun A l o o' h hl ho hc => by
  refine ⟨h.few, turns_below (by omega) A l o o' h.low hl ho hc, turns_block A l o o' h.c0 hl ho hc, turns_block A l o o' h.c3 hl ho hc, turns_block A l o o' h.c2 hl ho hc, ?_⟩
  obtain ⟨cnt, h1, h2⟩ := h.fm
  exact ⟨cnt, h1, h2.keep (World.putObj_heap_other (by omega))⟩
theorem TI.gr {w : World} {la : Option Addr} {ln lc : Nat} {ts : List Tg} {xs : List (Nat × Tg)} {A B : World} (h : TI w la ln lc ts xs A) (hq : Gr A B) : TI w la ln lc ts xs B := by
  refine ⟨h.few, h.low.trans (Below.mono hq h.low.size), heap_gr hq h.c0, heap_gr hq h.c3, heap_gr hq h.c2, ?_⟩
  obtain ⟨cnt, h1, h2⟩ := h.fm
  exact ⟨cnt, h1, h2.below hq⟩
/-- What stands behind the round's assignments. -/
def MidI (w : World) (la : Option Addr) (ln lc : Nat) (ts : List Tg) (q0 : Value) (xs : List (Nat × Tg)) (x : Nat × Tg) (b : Act) (W : World) : Prop :=
  TI w la ln lc ts xs W ∧ GoodI ts xs x ∧ ∃ g, w.heap.size + 3 ≤ g ∧ W.heap[g]? = some (.cells #[.int .i64 x.2.typ, x.2.val] 42 (0, 0)) ∧
    ∃ t0 t1 t2 t4 t8 t9 t10 t11 t12 t13 t14 t15 t16 t17 t18 t19, b = { tmps := #[t0, t1, t2, .pointer (some ⟨w.heap.size, 0, none⟩), t4, .pointer (some ⟨w.heap.size + 2, 0, none⟩), .int .i64 (x.1 : Int), .pointer (some ⟨g, 0, none⟩), t8, t9, t10, t11, t12, t13, t14, t15, t16, t17, t18, t19], defers := [] }
theorem MidI.turns (w : World) (la : Option Addr) (ln lc : Nat) (ts : List Tg) (q0 : Value) (B : Nat) (hB : w.heap.size + 3 ≤ B) (xs : List (Nat × Tg)) (x : Nat × Tg) (b : Act) : Turns B (MidI w la ln lc ts q0 xs x b) := fun A l o o' h hl ho hc => by
  obtain ⟨h1, h2, g, h3, h4, h5⟩ := h
  exact ⟨TI.turns w la ln lc ts B hB xs A l o o' h1 hl ho hc, h2, g, h3, turns_block A l o o' h4 hl ho hc, h5⟩
section
attribute [local go_sem] Oper.semAt_some
set_option maxRecDepth 100000 in
set_option maxHeartbeats 4000000 in
theorem taught_any (ao : Option Addr) (n c : Nat) (qs : List Tg) (la : Option Addr) (ln lc : Nat) (ts : List Tg) (w : World) (hra : TR w (.slice ao n c) n qs) (hrt : TR w (.slice la ln lc) ln ts) (hn : n ≤ 1000) (hln : ln ≤ 1000)
    (hma : ∀ x ∈ qs, x.l.length ≤ 1000) (hmt : ∀ x ∈ ts, x.l.length ≤ 1000) (hia : ∀ x ∈ qs, I64 x.typ) (hit : ∀ x ∈ ts, I64 x.typ) :
    Calls Try.prog 35 #[.slice ao n c, .slice la ln lc] w fun e w' => ∃ v us, e = .returned v ∧ plain us = (plain qs).map (takeOver (plain ts)) ∧ TO w' w.heap.size v us ∧ Below w.heap.size w w' := by
  have HRA := Lib.hid hra
  have HRT := Lib.hid hrt
  have HMA := Lib.hid hma
  have HMT := Lib.hid hmt
  have HIA := Lib.hid hia
  have HIT := Lib.hid hit
  have HLT := Lib.hid hrt.len
  have HLA := Lib.hid hra.len
  clear hra hrt hma hmt hia hit
  refine (callsIn_wide (n := 0)).1 ?_
  refine callsIn_of_wp_marks Try.func35 rfl trivial ?_ rfl
  simp only [Try.ntmps35, List.size_toArray, List.length_cons, List.length_nil, Nat.reduceAdd, Nat.reduceSub, Array.replicate_succ, Array.replicate_zero, List.push_toArray, List.append_toArray, List.nil_append, List.cons_append]
  have hmm := @run_makeMap Try.prog
  gi_wp2_with (refine ⟨trivial, rfl, ?_⟩; refine (callsIn_wide.2 (backward_any _ _ _ _)).mono ?_; rintro e w1 ⟨rfl, rfl⟩)
  clear hmm
  simp only [Nat.add_assoc, Nat.reduceAdd]
  have hsz4 : ((((w.alloc (.cells #[.slice la ln lc] 23)).alloc (.map #[] 0)).alloc (.cells #[.map (some (w.heap.size + 1))] 69)).alloc (.cells #[.slice la ln lc] 23)).heap.size = w.heap.size + 4 := by simp
  have hq4 : Below w.heap.size w ((((w.alloc (.cells #[.slice la ln lc] 23)).alloc (.map #[] 0)).alloc (.cells #[.map (some (w.heap.size + 1))] 69)).alloc (.cells #[.slice la ln lc] 23)) := ((((Gr.refl w).alloc _).alloc _).alloc _).alloc _
  have b0 : ((((w.alloc (.cells #[.slice la ln lc] 23)).alloc (.map #[] 0)).alloc (.cells #[.map (some (w.heap.size + 1))] 69)).alloc (.cells #[.slice la ln lc] 23)).heap[w.heap.size]? = some (.cells #[.slice la ln lc] 23) := by
    refine heap_gr (((Gr.refl _).alloc _).alloc _ |> fun h => h.alloc _) (?_ : (w.alloc (.cells #[.slice la ln lc] 23)).heap[w.heap.size]? = some (.cells #[.slice la ln lc] 23))
    exact heap_alloc_last _ _
  have b1 : FM ((((w.alloc (.cells #[.slice la ln lc] 23)).alloc (.map #[] 0)).alloc (.cells #[.map (some (w.heap.size + 1))] 69)).alloc (.cells #[.slice la ln lc] 23)) (w.heap.size + 1) (fun _ => none) 0 := by
    have h := FM.made (w.alloc (.cells #[.slice la ln lc] 23))
    rw [World.size_alloc] at h
    exact h.below (((Gr.refl _).alloc _).alloc _)
  have b2 : ((((w.alloc (.cells #[.slice la ln lc] 23)).alloc (.map #[] 0)).alloc (.cells #[.map (some (w.heap.size + 1))] 69)).alloc (.cells #[.slice la ln lc] 23)).heap[w.heap.size + 2]? = some (.cells #[.map (some (w.heap.size + 1))] 69) := by
    have h := heap_alloc_last ((w.alloc (.cells #[.slice la ln lc] 23)).alloc (.map #[] 0)) (.cells #[.map (some (w.heap.size + 1))] 69)
    rw [World.size_alloc, World.size_alloc] at h
    exact heap_gr ((Gr.refl _).alloc _) h
  have b3 : ((((w.alloc (.cells #[.slice la ln lc] 23)).alloc (.map #[] 0)).alloc (.cells #[.map (some (w.heap.size + 1))] 69)).alloc (.cells #[.slice la ln lc] 23)).heap[w.heap.size + 3]? = some (.cells #[.slice la ln lc] 23) := by
    have h := heap_alloc_last (((w.alloc (.cells #[.slice la ln lc] 23)).alloc (.map #[] 0)).alloc (.cells #[.map (some (w.heap.size + 1))] 69)) (.cells #[.slice la ln lc] 23)
    rw [World.size_alloc, World.size_alloc, World.size_alloc] at h
    exact h
  have H0 : Hid (TI w la ln lc ts [] ((((w.alloc (.cells #[.slice la ln lc] 23)).alloc (.map #[] 0)).alloc (.cells #[.map (some (w.heap.size + 1))] 69)).alloc (.cells #[.slice la ln lc] 23))) := ⟨Nat.zero_le _, hq4, b0, b3, b2, 0, Nat.le_refl _, by rw [List.length_nil, Nat.sub_zero, List.drop_of_length_le (Nat.le_refl _)]; exact b1⟩
  have HQ4 := Lib.hid hq4
  have HB3 := Lib.hid b3
  generalize ((((w.alloc (.cells #[.slice la ln lc] 23)).alloc (.map #[] 0)).alloc (.cells #[.map (some (w.heap.size + 1))] 69)).alloc (.cells #[.slice la ln lc] 23)) = w4 at hsz4 H0 HQ4 HB3 ⊢
  have hle4 : w.heap.size + 3 ≤ w4.heap.size := by omega
  have HSZ := Lib.hid hsz4
  clear b0 b1 b2 b3 hq4 hsz4
  refine rangedI (B := w.heap.size) (by omega) (gf := 61) (lb := #[.pointer (some ⟨w.heap.size + 3, 0, none⟩)]) rfl (enters_of Try.func61 (by kernel_rfl) rfl) encI (fun _ => rfl)
    (fun xs x _ => GoodI ts xs x) (TI w la ln lc ts) (fun _ _ => False) (MidI w la ln lc ts .nilFunc) (fun xs => xs.length = ln) (TI.turns w la ln lc ts _ hle4) (fun _ _ _ _ _ h _ _ _ => h) (MidI.turns w la ln lc ts _ _ hle4) (fun _ _ _ h hq => h.gr hq) H0.out ?assign ?body ?seq ?done ?stop
  case seq =>
    intro lp J Jx W hW hJI hJ hY h0
    exact backward1_in lp w.heap.size (w.heap.size + 3) w W la ln lc ts HRT.out (by omega) (HQ4.out.trans (Below.mono hW (by omega))) (Nat.le_refl _) J Jx hJ hY (fun xs V h => (hJI xs V h).c3) h0
  case assign =>
    intro lp xs x W hI hG
    obtain ⟨i, x⟩ := x
    obtain ⟨T, v, lx⟩ := x
    have hx : ts[i]? = some ⟨T, v, lx⟩ := hG.2
    obtain ⟨hi, hxi⟩ := List.getElem?_eq_some_iff.1 hx
    have hbv := HRT.out.val i hi
    rw [hxi] at hbv
    obtain ⟨A, L, C, rfl, _⟩ := hbv.sl
    have HI := Lib.hid hI
    have HG := Lib.hid hG
    clear hI hG hx hxi hbv
    simp only [encI]
    gi_wp2
    have hal : Gr W (W.alloc (.cells #[.int .i64 T, .slice A L C] 42)) := (Gr.refl W).alloc _
    have hg : w.heap.size + 3 < W.heap.size := (Array.getElem?_eq_some_iff.1 HI.out.c3).1
    exact ⟨(KeepsOthers.alloc _ _).from _, Below.alloc (Below.refl _ W) HI.out.low.size _, HI.out.gr hal, HG.out, W.heap.size, by omega, heap_alloc_last _ _, _, _, _, _, _, _, _, _, _, _, _, _, _, _, _, _, rfl⟩
  case body =>
    rintro lp xs x b W ⟨hI, hG, gx, hgl, hg, t0, t1, t2, t4, t8, t9, t10, t11, t12, t13, t14, t15, t16, t17, t18, t19, rfl⟩
    obtain ⟨i, x⟩ := x
    obtain ⟨T, v, lx⟩ := x
    obtain ⟨hG1, hG2⟩ := hG
    obtain ⟨hi, hxi⟩ := List.getElem?_eq_some_iff.1 hG2
    have hTI : I64 T := by
      have h := HIT.out _ (List.getElem_mem hi)
      rw [hxi] at h
      exact h
    obtain ⟨cnt, hcnt, hfm⟩ := hI.fm
    have hlen : xs.length ≤ 1000 := by have := hI.few; rw [HLT.out] at this; omega
    have km := cell1 hI.c2
    obtain ⟨k0, k1⟩ := copy_cells hg
    simp only at hG1 k0 k1
    have hi64 : (i : Int) ≤ 9223372036854775807 := by rw [HLT.out] at hi; omega
    have HFM := Lib.hid hfm
    have HI := Lib.hid hI
    have HGG : Hid (i + xs.length + 1 = ts.length) := hG1
    have HXI : Hid (ts[i].typ = T) := by show _ = _; rw [hxi]
    have HHI := Lib.hid hi
    have hmx : cnt < maxLen := by unfold maxLen; omega
    have hcl : cnt ≤ xs.length := hcnt
    clear hI hg hfm hG1 hG2 hxi hcnt
    gi_wp2_with (refine wpListIn_mapUpdate_fm _ rfl (.tmp 13) (.tmp 15) (.tmp 16) rfl (w.heap.size + 1) cnt _ T i rfl rfl rfl HFM.out hTI hi64 hmx ?_; intro w3 hfm3 hg3)
    have e1 : ts.length - (xs ++ [((i, ⟨T, v, lx⟩) : Nat × Tg)]).length = i := by rw [List.length_append, List.length_singleton]; have := HGG.out; omega
    have e2 : ts.length - xs.length = i + 1 := by have := HGG.out; omega
    have hne : ∀ k, k ≠ w.heap.size + 1 → ∀ o, W.heap[k]? = some o → w3.heap[k]? = some o := fun k hk o ho => (hg3.block k (Array.getElem?_eq_some_iff.1 ho).1 (fun e => hk (Option.some.inj e))).trans ho
    refine ⟨KeepsFrom.of_grownBy hg3 (fun j e => by obtain rfl := Option.some.inj e; omega), (Below.refl _ _).grown hg3 HI.out.low.size (fun k e => by obtain rfl := Option.some.inj e; omega), ⟨?_, ?_, ?_, ?_, ?_, ?_⟩⟩
    · rw [List.length_append, List.length_singleton]; have := HGG.out; omega
    · exact HI.out.low.trans ((Below.refl _ _).grown hg3 HI.out.low.size (fun k e => by obtain rfl := Option.some.inj e; omega))
    · exact hne _ (by omega) _ HI.out.c0
    · exact hne _ (by omega) _ HI.out.c3
    · exact hne _ (by omega) _ HI.out.c2
    · rw [e1, fIdx_drop ts i HHI.out, HXI.out]
      rw [e2] at hfm3
      refine ⟨_, ?_, hfm3⟩
      rw [List.length_append, List.length_singleton]
      split <;> omega
  case done =>
    intro D xs W hD hS hI hK
    obtain ⟨cnt, hcnt, hfm⟩ := hI.fm
    rw [HLT.out, hS, Nat.sub_self, List.drop_zero] at hfm
    have hgm := hI.c2
    have hgl := hI.c0
    have hmlt := hfm.lt
    have hclt : w.heap.size + 3 < W.heap.size := (Array.getElem?_eq_some_iff.1 hI.c3).1
    have WK := Lib.hid (walk_any w W none (fun _ h => by cases h) (fun _ h => by cases h) hI.low ao n c qs HRA.out hn 52 #[.pointer (some ⟨w.heap.size + 2, 0, none⟩), .pointer (some ⟨w.heap.size, 0, none⟩)] (fun _ _ => rfl)
      (fun _ V => V.heap[w.heap.size + 2]? = some (.cells #[.map (some (w.heap.size + 1))] 69) ∧ V.heap[w.heap.size]? = some (.cells #[.slice la ln lc] 23) ∧ FM V (w.heap.size + 1) (fIdx ts 0) cnt)
      (fun _ w1 w2 h hb => ⟨by rw [hb.block _ (by omega)]; exact h.1, by rw [hb.block _ (by omega)]; exact h.2.1, h.2.2.keep (hb.block _ (by omega))⟩) ⟨hgm, hgl, hfm⟩ (outAt (plain qs) fun _ o => some (takeOver (plain ts) o))
      (fun j hj T A L C wr hT hv hbs hbw hsz' hJ => by
        have hL : qs[j].l.length = L := by
          obtain ⟨_, _, es, _⟩ := hbs.shape
          simp only [Value.slice.injEq] at es
          exact es.2.1.symm
        have := HMA.out qs[j] (List.getElem_mem hj)
        have hTi := HIA.out qs[j] (List.getElem_mem hj)
        rw [← hT] at hTi
        refine (taught1_any (w.heap.size + 2) w.heap.size (w.heap.size + 1) cnt la ln lc ts T A L C qs[j].l hL (by omega) wr hbs hTi (HRT.out.below hbw) HMT.out hJ.1 hJ.2.1 hJ.2.2).mono ?_
        rintro e w' ⟨h1, h2⟩
        refine ⟨?_, h2, heap_below hJ.1 h2, heap_below hJ.2.1 h2, hJ.2.2.below h2⟩
        rw [outAt_get _ j hj, ← hT]
        exact h1))
    have HE : Hid (outs (outAt (plain qs) fun _ o => some (takeOver (plain ts) o)) n = (plain qs).map (takeOver (plain ts))) := by
      show _ = _
      rw [outs_all _ _ (by rw [plain_length]; exact HLA.out), scanL_plain]
      simp
    have HLOW := Lib.hid hI.low
    have HKK := Lib.hid hK
    have HDD := Lib.hid hD
    clear hI hfm hgm hgl hS hK hD hcnt
    gi_wp2_with (refine ⟨trivial, rfl, ?_⟩; refine (callsIn_wide.2 WK.out).mono ?_; rintro e w5 ⟨v, us, rfl, h1, h2, h3, _⟩)
    have hK2 := heap_below HKK.out h3
    have hto := h2.mono (base' := w.heap.size) HLOW.out.size
    rw [HE.out] at h1
    refine ⟨by simp, .inl ⟨_, _, rfl, run_takeDeferred hK2, ?_⟩⟩
    refine ⟨_, results_tmp rfl _ _ _, v, us, rfl, h1, ⟨turns_row (B := w4.heap.size) _ D _ (.deferred none) hto.own HDD.out hK2 rfl, fun y hy => turns_row (B := w4.heap.size) _ D _ (.deferred none) (hto.vals y hy) HDD.out hK2 rfl⟩, ?_⟩
    exact turns_below (B := w4.heap.size) (by omega) _ D _ (.deferred none) (HLOW.out.trans (Below.mono h3 HLOW.out.size)) HDD.out hK2 rfl
  case stop =>
    intro D xs W hD hX hK
    exact hX.elim
end
end Go.Proofs.Ytbldcjngccmhpaa.Ng
