/-
  Timers in memory: New, Next, Due.
-/
import Derived.Test.YtmcifmgfgdahnaaTmG
namespace Go.Proofs.Ytmcifmgfgdahnaa.Tm
open Go.RowKit
open Go.Proofs.Ytmcifmgfgdahnaa.Id (Tr Tr.refl Tr.gr Tr.only blk own_blk flatR flatR_len flatR_get flatR_cons flatR_append flatR_one flatR_cell RR)
set_option linter.unusedVariables false
set_option linter.unusedSimpArgs false

/-- What Next tells. -/
def nextD : List D → D
  | [] => (0, 0)
  | x :: _ => x
def nextB : List D → Bool
  | [] => false
  | _ :: _ => true
theorem sizeD : (Try.prog.info? 40).map (·.size) = some 2 := by kernel_rfl
theorem size2 (x y : Value) : (Try.prog.info? 40).map (·.size) = some (#[x, y] : Array Value).size := sizeD
section
variable {ops : Array Oper} {rest : List Oper} {op : Oper} {a : Act} {w : World} {Q : Exit → Act → World → Prop}
/-- A struct of two ints into a block of its own. -/
theorem wpList_store_d (hgd : op.guard = none) (x y : Operand) (ho : op.op = .store 40 x y) (g : Nat) (k t c0 c1 : Int) (hx : a.eval x = .pointer (some ⟨g, 0, none⟩)) (hy : a.eval y = .agg #[.int .i64 k, .int .i64 t])
    (hg : w.heap[g]? = some (.cells #[.int .i64 c0, .int .i64 c1] 40 (0, 0))) (h : ∀ w', w'.heap[g]? = some (.cells #[.int .i64 k, .int .i64 t] 40 (0, 0)) → Only g w w' → wpList Try.prog ops Q rest (a.put op.dst undef) w') : wpList Try.prog ops Q (op :: rest) a w :=
  wpList_store_whole hgd 40 x y ho g (two (k, t)) hx hy 40 (two (c0, c1)) hg sizeD rfl (two_cell _) h
end
set_option maxRecDepth 20000 in
set_option maxHeartbeats 2000000 in
theorem tnext_any {p g : Nat} {v : Value} {b : Nat} {l : List D} (w : World) (h : TM w p g v b l) :
    Calls Try.prog 16 #[.pointer (some ⟨p, 0, none⟩)] w fun e w' => e = .returned (.tuple #[.agg #[.int .i64 (nextD l).1, .int .i64 (nextD l).2], .bool (nextB l)]) ∧ Below w.heap.size w w' := by
  have HB : Hid (Gr w (w.alloc (.cells #[.int .i64 0, .int .i64 0] 40))) := (Below.refl _ _).alloc (Nat.le_refl _) _
  have HG : Hid ((w.alloc (.cells #[.int .i64 0, .int .i64 0] 40)).heap[w.heap.size]? = some (.cells #[.int .i64 0, .int .i64 0] 40 (0, 0))) := heap_alloc_last _ _
  have HTM := Lib.hid (h.gr HB.out)
  have HL := Lib.hid (tlen_any _ HTM.out)
  have HLT := Lib.hid h.lt
  clear h
  cases l with
  | nil =>
    simp only [List.length_nil] at HL
    show Calls _ _ _ _ fun e w' => e = .returned (.tuple #[.agg #[.int .i64 0, .int .i64 0], .bool false]) ∧ Below w.heap.size w w'
    go_enter Try.func16, Try.ntmps16
    go_wp2_with fail
    refine HL.out.mono ?_
    rintro e w1 ⟨rfl, rfl⟩
    generalize w.alloc (.cells #[.int .i64 0, .int .i64 0] 40) = w1 at HB HG HTM HL ⊢
    go_wp2_with (with_reducible refine wpList_store_d rfl (.tmp 2) (.tmp 7) rfl w.heap.size 0 0 0 0 rfl rfl HG.out ?_)
    intro w2 h2 ho2
    have H2 := Lib.hid h2
    have HB2 := Lib.hid (ho2.below _ _ (Nat.le_refl _) HB.out)
    clear h2 ho2
    go_wp2
    refine bodyPost_ret (v := .tuple #[.agg #[.int .i64 0, .int .i64 0], .bool false]) (results_cell_tmp_row (P := Try.prog) (fn := Try.f16) rfl _ _ w.heap.size 40 _ (0, 0) _ rfl H2.out Try.underlying40 rfl (size2 _ _)) rfl ?_
    exact ⟨rfl, HB2.out⟩
  | cons x l =>
    have hx : (((x :: l).length : Nat) : Int) = ((l.length : Nat) : Int) + 1 := by simp
    rw [hx] at HL
    obtain ⟨L, hL⟩ : ∃ L, L = l.length := ⟨_, rfl⟩
    rw [← hL] at HL
    have hL0 : ¬ ((L : Int) + 1 = 0) := by omega
    have hL1 : ((L : Int) + 1 == 0) = false := by rw [beq_eq_false_iff_ne]; exact hL0
    have k0 := cell1 HTM.out.row
    obtain ⟨q, hq, hp⟩ := HTM.out.heap
    have hf := first_eq hq.2 hp HTM.out.srt
    obtain ⟨⟨f, hq1, _⟩, _⟩ := hq
    have hq0 : 0 < q.length := by rw [hp.length_eq]; simp
    obtain ⟨r, cap, cur, ev, h1, h2, h3, h4, h5, h6⟩ := hq1.own.open hq0
    subst ev
    obtain ⟨c0, c1, c2⟩ := cellsQ hq1.row
    have hr := range_two (i := 0) h2 h6 hq0
    rw [hf, Nat.zero_mul] at hr
    have e0 : (w.alloc (.cells #[.int .i64 0, .int .i64 0] 40)).cell? ⟨r, 0, none⟩ = some (.int .i64 x.1) := by simpa using hr 0 _ rfl
    have e1 : (w.alloc (.cells #[.int .i64 0, .int .i64 0] 40)).cell? ⟨r, 1, none⟩ = some (.int .i64 x.2) := by simpa using hr 1 _ rfl
    obtain ⟨M, hM⟩ : ∃ M, M = q.length := ⟨_, rfl⟩
    rw [← hM] at hq0 h3 c0
    show Calls _ _ _ _ fun e w' => e = .returned (.tuple #[.agg #[.int .i64 x.1, .int .i64 x.2], .bool true]) ∧ Below w.heap.size w w'
    clear hx hp hf hq1 h1 h2 h4 h5 h6 hr hM hL hL0
    go_enter Try.func16, Try.ntmps16
    go_wp2_with fail
    refine HL.out.mono ?_
    rintro e w1 ⟨rfl, rfl⟩
    generalize w.alloc (.cells #[.int .i64 0, .int .i64 0] 40) = w1 at HB HG HTM HL k0 c0 c1 c2 e0 e1 ⊢
    go_wp2_with (with_reducible refine wpList_store_d rfl (.tmp 2) (.tmp 16) rfl w.heap.size x.1 x.2 0 0 rfl rfl HG.out ?_)
    intro w2 h2 ho2
    have H2 := Lib.hid h2
    have HB2 := Lib.hid (ho2.below _ _ (Nat.le_refl _) HB.out)
    clear h2 ho2 k0 c0 c1 c2 e0 e1
    go_wp2
    refine bodyPost_ret (v := .tuple #[.agg #[.int .i64 x.1, .int .i64 x.2], .bool true]) (results_cell_tmp_row (P := Try.prog) (fn := Try.f16) rfl _ _ w.heap.size 40 _ (0, 0) _ rfl H2.out Try.underlying40 rfl (size2 _ _)) rfl ?_
    exact ⟨rfl, HB2.out⟩
/-- Blocks of other types lie beside timers. -/
theorem TM.off_cell {w : World} {p g b k : Nat} {v : Value} {l : List D} {e : TypeId} {cs : Array Value} {fr : Nat × Nat} (h : TM w p g v b l) (hc : w.heap[k]? = some (.cells cs e fr)) (h1 : e ≠ 51) (h2 : e ≠ 62) (h3 : e ≠ 56) : k ∉ Ft p g v b := by
  obtain ⟨q, ⟨⟨f, hq, _⟩, _⟩, _⟩ := h.heap
  intro hk
  simp only [Ft, Fq, List.mem_cons] at hk
  rcases hk with rfl | rfl | rfl | hk
  · rw [h.row] at hc
    simp only [Option.some.injEq, Obj.cells.injEq] at hc
    exact h1 hc.2.1.symm
  · rw [hq.row] at hc
    simp only [Option.some.injEq, Obj.cells.injEq] at hc
    exact h2 hc.2.1.symm
  · obtain ⟨D, ⟨a, c, h4, _⟩, _⟩ := hq.map
    rw [h4] at hc
    cases hc
  · exact blk_ne_g hq.own hc (fun e1 => h3 e1.symm) k hk rfl
theorem TM.off {w : World} {p g b : Nat} {v : Value} {l : List D} {base n size : Nat} {e : TypeId} {lv : Value} {xs : List Value} (h : TM w p g v b l) (ho : w.ownsRow base e size lv n xs) (h1 : e ≠ 51) (h2 : e ≠ 62) (h3 : e ≠ 56) : ∀ k ∈ blk lv, k ∉ Ft p g v b := by
  intro k hk
  rcases ho.2 with ⟨rfl, _⟩ | ⟨g', cap, cur, rfl, hb, hg', _⟩
  · cases hk
  · obtain rfl := List.mem_singleton.1 hk
    exact h.off_cell hg' h1 h2 h3
theorem TM.keys {w : World} {p g b : Nat} {v : Value} {l : List D} (h : TM w p g v b l) : ∀ d ∈ l, I64 d.1 := by
  obtain ⟨q, ⟨⟨f, hq, _⟩, _⟩, hp⟩ := h.heap
  exact fun d hd => hq.keys d (hp.mem_iff.2 hd)
/-- The first one is taken away. -/
theorem tpop_any {p g : Nat} {v : Value} {b : Nat} {x : D} {l : List D} (w : World) (h : TM w p g v b (x :: l)) :
    Calls Try.prog 22 #[.pointer (some ⟨g, 0, none⟩), .int .i64 0] w fun e w' => e = .returned (.tuple #[]) ∧ TGo p g v b w l w' := by
  obtain ⟨q, hq, hp⟩ := h.heap
  have hf := first_eq hq.2 hp h.srt
  have hq0 : 0 < q.length := by rw [hp.length_eq]; simp
  have hr := qremove_any g 0 w hq hq0
  rw [hf] at hr
  have ha := h.apart
  have e1 : without (x :: l) x.1 = l := by
    have hn := (List.nodup_cons.1 (show (x.1 :: l.map (·.1)).Nodup from ha)).1
    unfold without
    rw [List.filter_cons_of_neg (by simp)]
    exact without_of hn
  have hpp : (without q x.1).Perm l := by
    have := hp.filter (fun p => p.1 != x.1)
    unfold without at e1 ⊢
    rw [e1] at this
    exact this
  exact hr.mono fun e w' ⟨he, hg⟩ => ⟨he, TGo.of (q := q) h hg hpp (List.pairwise_cons.1 h.srt).2⟩
theorem infoD : (Try.prog.info? 40).map (fun i => (i.zero, i.size, i.bytes)) = some (some (.agg #[.int .i64 0, .int .i64 0]), 2, 16) := by kernel_rfl
theorem due_of {l acc l' : List D} {t : Int} (h : l = acc ++ l') (ha : ∀ x ∈ acc, x.2 ≤ t) (hl : nextB l' = true → ¬ (nextD l').2 ≤ t) : due l t = acc ∧ left l t = l' := by
  subst h
  have h1 : ∀ (m : List D), (∀ x ∈ m, x.2 ≤ t) → (due (m ++ l') t = m ∧ left (m ++ l') t = l') := by
    intro m
    induction m with
    | nil =>
      intro _
      cases l' with
      | nil => exact ⟨rfl, rfl⟩
      | cons x r =>
        have := hl rfl
        exact ⟨List.takeWhile_cons_of_neg (by simpa [nextD] using this), List.dropWhile_cons_of_neg (by simpa [nextD] using this)⟩
    | cons y m ih =>
      intro hm
      have hy := hm y List.mem_cons_self
      obtain ⟨e1, e2⟩ := ih fun x hx => hm x (List.mem_cons_of_mem _ hx)
      constructor
      · unfold due at e1 ⊢
        rw [List.cons_append, List.takeWhile_cons_of_pos (by simpa using hy), e1]
      · unfold left at e2 ⊢
        rw [List.cons_append, List.dropWhile_cons_of_pos (by simpa using hy), e2]
  exact h1 acc ha
/-- Between two rounds of Due. -/
structure DueR (w : World) (p g b : Nat) (v : Value) (l : List D) (t : Int) (acc l' : List D) (v' lv : Value) (wr : World) : Prop where
  all : l = acc ++ l'
  was : ∀ x ∈ acc, x.2 ≤ t
  tm : TM wr p g v' b l'
  own : wr.ownsRow w.heap.size 40 2 lv acc.length (flatR acc)
  stp : Stp g b v v' w wr
theorem DueR.gr {w wr wn : World} {p g b : Nat} {v v' lv : Value} {l acc l' : List D} {t : Int} (h : DueR w p g b v l t acc l' v' lv wr) (hb : Below wr.heap.size wr wn) : DueR w p g b v l t acc l' v' lv wn :=
  ⟨h.all, h.was, h.tm.gr hb, ownsRow_below h.own hb, h.stp.trans (Stp.gr hb)⟩
theorem DueR.pop {w wr wn : World} {p g b : Nat} {v v' lv : Value} {l acc l' : List D} {t : Int} {x : D} (h : DueR w p g b v l t acc (x :: l') v' lv wr) (hg : TGo p g v' b wr l' wn) : ∃ v2, TM wn p g v2 b l' ∧ wn.ownsRow w.heap.size 40 2 lv acc.length (flatR acc) ∧ Stp g b v v2 w wn ∧ Stp g b v' v2 wr wn := by
  obtain ⟨v2, ht, hs⟩ := hg
  refine ⟨v2, ht, own_keep h.own fun k hk => hs.tr.block k (own_blk_lt h.own hk) fun hk2 => ?_, h.stp.trans hs, hs⟩
  exact h.tm.off h.own (by decide) (by decide) (by decide) k hk (List.mem_cons_of_mem _ hk2)
set_option maxRecDepth 20000 in
set_option maxHeartbeats 4000000 in
theorem tdue_any {p g : Nat} (t : Int) {v : Value} {b : Nat} {l : List D} (w : World) (h : TM w p g v b l) :
    Calls Try.prog 14 #[.pointer (some ⟨p, 0, none⟩), .int .i64 t] w fun e w' => ∃ dv, e = .returned dv ∧ w'.ownsRow w.heap.size 40 2 dv (due l t).length (flatR (due l t)) ∧ TGo p g v b w (left l t) w' := by
  obtain ⟨i0, hi, hz0, hz1, hz2⟩ := info_parts infoD
  have HS : Hid (DueR w p g b v l t [] l v (.slice none 0 0) w) := ⟨rfl, (fun _ h => by cases h), h, World.ownsRow_nil w w.heap.size 40 2, Stp.refl _ _ _ _⟩
  have HFEW := Lib.hid h.few
  clear h
  go_enter Try.func14, Try.ntmps14
  go_wp2_with fail
  go_loopw [5] (fun lv wr => ∃ (acc l' : List D) (v' : Value), DueR w p g b v l t acc l' v' lv wr) (fun lv _ => l.length - slen lv)
  case atStart => exact ⟨[], l, v, HS.out⟩
  case round =>
    clear HS
    obtain ⟨acc, l', v', hdr⟩ := hrel
    have HR := Lib.hid hdr
    clear hdr
    have HN := Lib.hid (tnext_any wr HR.out.tm)
    cases l' with
    | nil =>
      have e := due_of HR.out.all HR.out.was (fun h => by cases h)
      have HE := Lib.hid e
      clear e
      go_wp2_with fail
      refine HN.out.mono ?_
      rintro e w1 ⟨rfl, hb⟩
      have HR1 := Lib.hid (HR.out.gr hb)
      clear hb HN
      go_wp2_with fail
      go_ret
      have hb : Gr w1 (w1.alloc (.cells #[.int .i64 (nextD []).1, .int .i64 (nextD []).2] 40)) := (Below.refl _ _).alloc (Nat.le_refl _) _
      have hr := HR1.out.gr hb
      refine ⟨_, rfl, ?_, v', ?_, hr.stp⟩
      · rw [HE.out.1]; exact hr.own
      · rw [HE.out.2]; exact hr.tm
    | cons x l' =>
      have HN : Hid (Calls Try.prog 16 #[.pointer (some ⟨p, 0, none⟩)] wr fun e w' => e = .returned (.tuple #[.agg #[.int .i64 x.1, .int .i64 x.2], .bool true]) ∧ Below wr.heap.size wr w') := HN
      by_cases hc : t < x.2
      · have e := due_of HR.out.all HR.out.was (fun _ => Int.not_le.2 hc)
        have HE := Lib.hid e
        clear e
        go_wp2_with fail
        refine HN.out.mono ?_
        rintro e w1 ⟨rfl, hb⟩
        have HR1 := Lib.hid (HR.out.gr hb)
        clear hb HN
        go_wp2_with fail
        go_ret
        have hb : Gr w1 (w1.alloc (.cells #[.int .i64 x.1, .int .i64 x.2] 40)) := (Below.refl _ _).alloc (Nat.le_refl _) _
        have hr := HR1.out.gr hb
        refine ⟨_, rfl, ?_, v', ?_, hr.stp⟩
        · rw [HE.out.1]; exact hr.own
        · rw [HE.out.2]; exact hr.tm
      · obtain ⟨A, C, elv, hc1, hc2⟩ : ∃ A C, u5 = .slice A acc.length C ∧ acc.length ≤ C ∧ C ≤ maxLen := by
          obtain ⟨_, A, C, e, h1, h2, _⟩ := own_rd HR.out.own
          exact ⟨A, C, e, h1, h2⟩
        have HELV := Lib.hid elv
        have HC : Hid (x.2 ≤ t) := Int.not_lt.1 hc
        have HLEN : Hid (acc.length + 1 ≤ l.length) := by
          show _ ≤ _
          have := congrArg List.length HR.out.all
          rw [List.length_append, List.length_cons] at this
          omega
        have HBY : Hid ((acc.length + 1) * 16 ≤ 140737488355328) := by show _ ≤ _; have := HLEN.out; have := HFEW.out; omega
        have HBASE : Hid (w.heap.size ≤ wr.heap.size) := HR.out.stp.tr.size
        clear elv hc1 hc2
        go_upto_region 3 with fail
        refine HN.out.mono ?_
        rintro e w1 ⟨rfl, hb⟩
        have HR1 := Lib.hid (HR.out.gr hb)
        have HBASE1 : Hid (w.heap.size ≤ w1.heap.size) := Nat.le_trans HBASE.out hb.size
        clear hb HN HR
        go_upto_region 3 with fail
        have HB : Hid (Gr w1 (w1.alloc (.cells #[.int .i64 x.1, .int .i64 x.2] 40))) := (Below.refl _ _).alloc (Nat.le_refl _) _
        have HF : Hid ((w1.alloc (.cells #[.int .i64 x.1, .int .i64 x.2] 40)).heap[w1.heap.size]? = some (.cells #[.int .i64 x.1, .int .i64 x.2] 40 (0, 0))) := heap_alloc_last _ _
        generalize w1.alloc (.cells #[.int .i64 x.1, .int .i64 x.2] 40) = w2 at HB HF ⊢
        have HR2 := Lib.hid (HR1.out.gr HB.out)
        have HP := Lib.hid (tpop_any w2 HR2.out.tm)
        obtain ⟨c0, c1⟩ := copy_cells HF.out
        have k0 := cell1 HR2.out.tm.row
        go_wp2_with fail
        refine HP.out.mono ?_
        rintro e w3 ⟨rfl, hg⟩
        obtain ⟨v3, ht3, ho3, hs3, hs3'⟩ := HR2.out.pop hg
        have hnf : w1.heap.size ∉ Fq g v' b := fun hk => by
          have := HR1.out.tm.lt _ (List.mem_cons_of_mem _ hk)
          omega
        have HF3 := Lib.hid (hs3'.tr.heap HF.out hnf)
        have HT3 := Lib.hid ht3
        have HO3 := Lib.hid ho3
        have HS3 := Lib.hid hs3
        have HB3 : Hid (w.heap.size ≤ w3.heap.size) := hs3.tr.size
        clear hg ht3 ho3 hs3 hs3' hnf HP c0 c1 k0
        have HRDO := Lib.hid (copy_cells HF3.out)
        obtain ⟨c0, c1⟩ := HRDO.out
        have HX : Hid (Rd (w3.alloc (.cells #[.int .i64 x.1, .int .i64 x.2] 40)) 2 (.slice (some ⟨w3.heap.size, 0, none⟩) 1 1) 1 (two x)) := rd_new w3 (two x) 40 1 2 rfl (by decide)
        have HB4 : Hid (Gr w3 (w3.alloc (.cells #[.int .i64 x.1, .int .i64 x.2] 40))) := (Below.refl _ _).alloc (Nat.le_refl _) _
        have HO4 := Lib.hid (ownsRow_below HO3.out HB4.out)
        go_wp2_with (at_builtin; refine wpList_append_gr _ rfl (.tmp 27) (.tmp 29) 26 rfl w.heap.size 40 i0 _ 2 16 Try.underlying26 hi hz0 hz1 hz2 rfl (by decide) _ acc.length _ rfl HO4.out _ 1 (two x) rfl HX.out (two_cell x) HBY.out (by decide) (Nat.le_trans HB3.out HB4.out.size) ?_)
        intro lv5 w5 ho5 hg5
        have HLV : Hid (∃ A5 C5, lv5 = .slice A5 (acc.length + 1) C5) := by
          obtain ⟨_, A5, C5, e5, _⟩ := own_rd ho5
          exact ⟨A5, C5, e5⟩
        have HR5 : Hid (DueR w p g b v l t (acc ++ [x]) l' v3 lv5 w5) := by
          have t4 := HT3.out.gr HB4.out
          have hoff := t4.off HO4.out (by decide) (by decide) (by decide)
          have tr5 := tr_grown hg5
          refine ⟨by rw [HR1.out.all]; simp, fun y hy => ?_, t4.tr tr5 fun k hk hk2 => hoff k hk2 hk, ?_, ?_⟩
          · rcases List.mem_append.1 hy with hy | hy
            · exact HR1.out.was y hy
            · obtain rfl := List.mem_singleton.1 hy; exact HC.out
          · rw [List.length_append, flatR_append]
            exact ho5
          · exact ⟨(HS3.out.trans (Stp.gr HB4.out)).tr.trans tr5 fun k hk => .inr (own_blk HO4.out k hk).1, HS3.out.blk⟩
        clear ho5 hg5 HX HB4 HO4 c0 c1 HRDO
        go_wp2_with fail
        go_roundw
        case rel =>
          first
            | exact ⟨_, _, _, HR5.out⟩
            | ((repeat apply Exists.intro); exact ⟨⟨_, _, _, HR5.out⟩, rfl⟩)
        case measure =>
          obtain ⟨A5, C5, e5⟩ := HLV.out
          have := HLEN.out
          have := HELV.out
          simp only [e5, this, slen]
          try simp [slen]
          omega
end Go.Proofs.Ytmcifmgfgdahnaa.Tm
