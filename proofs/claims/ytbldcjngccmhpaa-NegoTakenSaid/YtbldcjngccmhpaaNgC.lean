/-
  The rule of a type (nego's rules.of), which rules may be (rules.mayBe), Check.
-/
import Derived.Test.YtbldcjngccmhpaaNgB
namespace Go.Proofs.Ytbldcjngccmhpaa.Ng
open Go.RowKit
set_option linter.unusedVariables false
set_option linter.unusedSimpArgs false
theorem results_tmp_cell_row {P : Program} {fn : Func} {p u : Tmp} {ty : TypeId} (h : fn.results = #[.tmp u, .cell p ty]) (tmps : Array Value) (w : World) (g : Nat) (t : TypeId) (cs : Array Value) (fr : Nat × Nat) (d : TypeDesc)
    (hp : tmps.getD p undef = .pointer (some ⟨g, 0, none⟩)) (hg : w.heap[g]? = some (.cells cs t fr))
    (hu : P.underlying ty = some d) (hd : (match d with | .struct _ | .array _ _ => true | _ => false) = true) (hi : (P.info? ty).map (·.size) = some cs.size) :
    (results fn tmps).run P w = .ok (.tuple #[tmps.getD u undef, .agg cs]) w := by
  have hp' : tmps[p]?.getD undef = .pointer (some ⟨g, 0, none⟩) := by simpa using hp
  have hr := run_loadVar_row w g t ty cs fr d hg hu hd hi
  simp only [results, h]
  simp [Sem.run_bind, Result.andThen, hp', asAddr, hr]
/-- What 'of' tells: the place of the first rule of a type, and the rule. -/
def OfR (rs : List Ru) (T : Int) (w : World) (e : Ending) (w' : World) : Prop :=
  ((∃ (k : Nat) (h : k < rs.length) (r : Ru), e = .returned (.tuple #[.int .i64 (k : Int), .agg #[.int .i64 r.typ, .int .i64 r.size, .int .i64 r.kind, .int .i64 r.low, .int .i64 r.high, .int .i64 r.good, .bool r.must]]) ∧ r = rs[k] ∧ r.typ = T ∧ ∀ j (hj : j < k), (rs[j]'(by omega)).typ ≠ T) ∨
    (e = .returned (.tuple #[.int .i64 (-1), .agg #[.int .i64 0, .int .i64 0, .int .i64 0, .int .i64 0, .int .i64 0, .int .i64 0, .bool false]]) ∧ ∀ j (hj : j < rs.length), rs[j].typ ≠ T)) ∧ Below w.heap.size w w'
theorem OfR.hit {rs : List Ru} {T : Int} {w w' : World} (r : Ru) (k : Nat) (h : k < rs.length) (hr : r = rs[k]) (h1 : r.typ = T) (h2 : ∀ j (hj : j < k), (rs[j]'(by omega)).typ ≠ T) (hb : Below w.heap.size w w') :
    OfR rs T w (.returned (.tuple #[.int .i64 (k : Int), .agg #[.int .i64 r.typ, .int .i64 r.size, .int .i64 r.kind, .int .i64 r.low, .int .i64 r.high, .int .i64 r.good, .bool r.must]])) w' := ⟨.inl ⟨k, h, r, rfl, hr, h1, h2⟩, hb⟩

set_option maxRecDepth 20000 in
set_option maxHeartbeats 2000000 in
theorem of_any (ao : Option Addr) (n c : Nat) (rs : List Ru) (T : Int) (w : World) (hr : RR w (.slice ao n c) n rs) :
    Calls Try.prog 37 #[.slice ao n c, .int .i64 T] w (OfR rs T w) := by
  have hl := hr.len
  have HR := Lib.hid hr
  have hsh := hr.sh
  have hn63 : n ≤ 9223372036854775807 := by have := hsh.1; have := hsh.2; unfold maxLen at *; omega
  have HB0 : Hid (Below w.heap.size w (w.alloc (.cells #[.int .i64 0, .int .i64 0, .int .i64 0, .int .i64 0, .int .i64 0, .int .i64 0, .bool false] 56))) := (Below.refl _ _).alloc (Nat.le_refl _) _
  have HG0 : Hid ((w.alloc (.cells #[.int .i64 0, .int .i64 0, .int .i64 0, .int .i64 0, .int .i64 0, .int .i64 0, .bool false] 56)).heap[w.heap.size]? = some (.cells #[.int .i64 0, .int .i64 0, .int .i64 0, .int .i64 0, .int .i64 0, .int .i64 0, .bool false] 56)) := heap_alloc_last _ _
  clear hr hsh
  go_enter Try.func37, Try.ntmps37
  go_wp2
  go_loopw [10] (fun iv wr => ∃ k : Nat, k ≤ n ∧ iv = .int .i64 k ∧ (∀ j (hj : j < k) (h2 : j < rs.length), rs[j].typ ≠ T) ∧ Below w.heap.size w wr ∧ wr.heap[w.heap.size]? = some (.cells #[.int .i64 0, .int .i64 0, .int .i64 0, .int .i64 0, .int .i64 0, .int .i64 0, .bool false] 56)) (fun iv _ => n - (intOf iv).toNat)
  case atStart => exact ⟨0, Nat.zero_le _, rfl, fun j hj => by omega, HB0.out, HG0.out⟩
  case round =>
    clear HB0 HG0
    obtain ⟨k, hk, rfl, hne, hb, hg⟩ := hrel
    have HNE := Lib.hid hne
    have HB := Lib.hid hb
    have HG := Lib.hid hg
    have HBN := Lib.hid (hb.size)
    clear hne hb hg
    by_cases hlt : k < n
    · obtain ⟨b, o, rfl, hbl, hc⟩ := (HR.out.below HB.out).cells (by omega)
      obtain ⟨c0, c1, c2, c3, c4, c5, c6⟩ := hc k (by omega)
      obtain ⟨r, hr⟩ : ∃ r, r = rs[k] := ⟨_, rfl⟩
      rw [← hr] at c0 c1 c2 c3 c4 c5 c6
      have HRK := Lib.hid hr
      have HBA : Hid (Gr wr (wr.alloc (.cells #[.int .i64 r.typ, .int .i64 r.size, .int .i64 r.kind, .int .i64 r.low, .int .i64 r.high, .int .i64 r.good, .bool r.must] 39))) := (Gr.refl wr).alloc _
      have HB1 := Lib.hid (HB.out.trans (Below.mono HBA.out HBN.out))
      have HG1 := Lib.hid (heap_gr HBA.out HG.out)
      have HGC : Hid ((wr.alloc (.cells #[.int .i64 r.typ, .int .i64 r.size, .int .i64 r.kind, .int .i64 r.low, .int .i64 r.high, .int .i64 r.good, .bool r.must] 39)).heap[wr.heap.size]? = some (.cells #[.int .i64 r.typ, .int .i64 r.size, .int .i64 r.kind, .int .i64 r.low, .int .i64 r.high, .int .i64 r.good, .bool r.must] 39)) := heap_alloc_last _ _
      clear hr hc
      by_cases ht : r.typ = T
      · subst ht
        go_upto_region 5 with fail
        obtain ⟨wq, hwq⟩ : ∃ wq, wq = wr.alloc (.cells #[.int .i64 r.typ, .int .i64 r.size, .int .i64 r.kind, .int .i64 r.low, .int .i64 r.high, .int .i64 r.good, .bool r.must] 39) := ⟨_, rfl⟩
        rw [← hwq]
        rw [← hwq] at HB1 HG1 HGC
        clear hwq c0 c1 c2 c3 c4 c5 c6
        refine wp_region_G 3 Gr (by kernel_rfl) ?_
        -- 0: slot 19
        refine wpG_take preGr (i := 0) (v := ?_) (by kernel_rfl) (some 19) (by kernel_rfl) rfl (by kernel_rfl) (by kernel_rfl) (by kernel_rfl) (fun _ _ _ h => h) (by rfl) (fun w' hw' => ?_) rfl ?_
        rotate_left
        · go_simp
          with_reducible rfl
        simp only [Act.put, List.setIfInBounds_toArray, List.set_cons_zero, List.set_cons_succ]
        -- 1: slot 20
        refine wpG_take preGr (i := 1) (v := ?_) (by kernel_rfl) (some 20) (by kernel_rfl) rfl (by kernel_rfl) (by kernel_rfl) (by kernel_rfl) (fun _ _ _ h => h) (by rfl) (fun w' hw' => ?_) rfl ?_
        rotate_left
        · obtain ⟨g0, g1, g2, g3, g4, g5, g6⟩ := cells7 (heap_gr hw' HGC.out)
          go_simp
          with_reducible rfl
        simp only [Act.put, List.setIfInBounds_toArray, List.set_cons_zero, List.set_cons_succ]
        -- 2: slot 4
        refine wpG_take preGr (i := 2) (v := ?_) (by kernel_rfl) (some 4) (by kernel_rfl) rfl (by kernel_rfl) (by kernel_rfl) (by kernel_rfl) (fun _ _ _ h => h) (by rfl) (fun w' hw' => ?_) rfl ?_
        rotate_left
        · go_simp
          with_reducible rfl
        simp only [Act.put, List.setIfInBounds_toArray, List.set_cons_zero, List.set_cons_succ]
        refine wpG_tail (i := 3) (by decide) rfl (by kernel_rfl) (by rfl) ?_
        refine wp_store_whole (none) 56 (.tmp 5) (.tmp 20) rfl w.heap.size (ruC r) rfl rfl 56 (ruC ruZ) HG1.out sizeR2 rfl (ruC_one r) rfl ?_
        intro w4 h4 ho4
        have H4 := Lib.hid h4
        have HB4 : Hid (Below w.heap.size w w4) := ho4.below _ _ (Nat.le_refl _) HB1.out.drew
        clear h4 ho4
        try simp only [Act.put, List.setIfInBounds_toArray, List.set_cons_zero, List.set_cons_succ]
        refine wpG_done (by kernel_rfl) ?_ _
        go_wp2
        refine bodyPost_ret (v := .tuple #[.int .i64 k, .agg #[.int .i64 r.typ, .int .i64 r.size, .int .i64 r.kind, .int .i64 r.low, .int .i64 r.high, .int .i64 r.good, .bool r.must]]) (results_tmp_cell_row (P := Try.prog) (fn := Try.f37) rfl _ _ w.heap.size 56 _ (0, 0) _ rfl H4.out Try.underlying56 rfl (by kernel_rfl)) rfl ?_
        exact OfR.hit r k (by omega) HRK.out rfl (fun j hj => HNE.out j hj (by omega)) HB4.out
      · have htf : (r.typ == T) = false := by simpa using ht
        have HT := Lib.hid ht
        clear ht
        go_wp2
        go_roundw
        case rel =>
          have HN1 : ∀ j (hj : j < k + 1) (h2 : j < rs.length), rs[j].typ ≠ T := fun j hj h2 => by
            by_cases e : j = k
            · subst e; rw [← HRK.out]; exact HT.out
            · exact HNE.out j (by omega) h2
          first | exact ⟨k + 1, by omega, by go_num, HN1, HB1.out, HG1.out⟩ | ((repeat apply Exists.intro); exact ⟨⟨k + 1, by omega, by go_num, HN1, HB1.out, HG1.out⟩, rfl⟩)
        case measure => simp [intOf]; omega
    · obtain rfl : k = n := by omega
      go_wp2_with (refine wpList_store_whole rfl 56 (.tmp 5) (.tmp 22) rfl w.heap.size (ruC ruZ) rfl rfl 56 (ruC ruZ) HG.out sizeR2 rfl (ruC_one ruZ) ?_)
      intro w3 h3 ho3
      have H3 := Lib.hid h3
      have HB3 : Hid (Below w.heap.size w w3) := ho3.below _ _ (Nat.le_refl _) HB.out
      clear h3 ho3
      go_wp2
      refine bodyPost_ret (v := .tuple #[.int .i64 (-1), .agg #[.int .i64 0, .int .i64 0, .int .i64 0, .int .i64 0, .int .i64 0, .int .i64 0, .bool false]]) (results_tmp_cell_row (P := Try.prog) (fn := Try.f37) rfl _ _ w.heap.size 56 _ (0, 0) _ rfl H3.out Try.underlying56 rfl (by kernel_rfl)) rfl ?_
      exact ⟨.inr ⟨rfl, fun j hj => HNE.out j (by omega) hj⟩, HB3.out⟩
/-- What has been looked at: all may be, and no two have one type. -/
def okTo (rs : List Ru) (k : Nat) : Prop := ∀ j (hj : j < rs.length), j < k → isR rs[j] ∧ ∀ i (hi : i < j), (rs[i]'(by omega)).typ ≠ rs[j].typ
theorem okTo.next {rs : List Ru} {k : Nat} (h : okTo rs k) (hk : k < rs.length) (h1 : isR rs[k]) (h2 : ∀ i (hi : i < k), (rs[i]'(by omega)).typ ≠ rs[k].typ) : okTo rs (k + 1) := fun j hj hjk => by
  by_cases e : j = k
  · subst e; exact ⟨h1, h2⟩
  · exact h j hj (by omega)
theorem areR_iff (rs : List Ru) : areR rs ↔ rs.length ≤ 16 ∧ okTo rs rs.length := by
  constructor
  · rintro ⟨h1, h2, h3⟩
    refine ⟨h1, fun j hj _ => ⟨h2 _ (List.getElem_mem hj), fun i hi e => ?_⟩⟩
    have := List.pairwise_iff_getElem.1 h3 i j (by rw [List.length_map]; omega) (by rw [List.length_map]; omega) hi
    apply this
    simp [e]
  · rintro ⟨h1, h2⟩
    refine ⟨h1, fun r hr => ?_, ?_⟩
    · obtain ⟨i, hi, rfl⟩ := List.mem_iff_getElem.1 hr
      exact (h2 i hi hi).1
    · refine List.pairwise_iff_getElem.2 fun i j hi hj hij e => ?_
      rw [List.length_map] at hj
      simp only [List.getElem_map] at e
      exact (h2 j hj hj).2 i hij e

set_option maxRecDepth 20000 in
set_option maxHeartbeats 2000000 in
theorem mayBes_any (ao : Option Addr) (n c : Nat) (rs : List Ru) (w : World) (hr : RR w (.slice ao n c) n rs) :
    Calls Try.prog 23 #[.slice ao n c] w fun e w' => e = .returned (.bool (decide (areR rs))) ∧ Below w.heap.size w w' := by
  have hl := hr.len
  have HR := Lib.hid hr
  clear hr
  by_cases h16 : n ≤ 16
  · go_enter Try.func23, Try.ntmps23
    go_wp2
    go_loopw [12] (fun iv wr => ∃ k : Nat, k ≤ n ∧ iv = .int .i64 k ∧ okTo rs k ∧ Below w.heap.size w wr) (fun iv _ => n - (intOf iv).toNat)
    case atStart => exact ⟨0, Nat.zero_le _, rfl, fun j hj h => by omega, Below.refl _ _⟩
    case round =>
      obtain ⟨k, hk, rfl, hok, hb⟩ := hrel
      have HOK := Lib.hid hok
      have HB := Lib.hid hb
      have HBN := Lib.hid (hb.size)
      clear hok hb
      by_cases hlt : k < n
      · obtain ⟨b, o, rfl, hbl, hc⟩ := (HR.out.below HB.out).cells (by omega)
        obtain ⟨c0, c1, c2, c3, c4, c5, c6⟩ := hc k (by omega)
        obtain ⟨r, hr⟩ : ∃ r, r = rs[k] := ⟨_, rfl⟩
        rw [← hr] at c0 c1 c2 c3 c4 c5 c6
        have HRK := Lib.hid hr
        have HBA : Hid (Gr wr (wr.alloc (.cells #[.int .i64 r.typ, .int .i64 r.size, .int .i64 r.kind, .int .i64 r.low, .int .i64 r.high, .int .i64 r.good, .bool r.must] 39))) := (Gr.refl wr).alloc _
        have HB1 := Lib.hid (HB.out.trans (Below.mono HBA.out HBN.out))
        have HGC : Hid ((wr.alloc (.cells #[.int .i64 r.typ, .int .i64 r.size, .int .i64 r.kind, .int .i64 r.low, .int .i64 r.high, .int .i64 r.good, .bool r.must] 39)).heap[wr.heap.size]? = some (.cells #[.int .i64 r.typ, .int .i64 r.size, .int .i64 r.kind, .int .i64 r.low, .int .i64 r.high, .int .i64 r.good, .bool r.must] 39)) := heap_alloc_last _ _
        have q0 := (cells7 HGC.out).1
        have OF := Lib.hid (of_any _ n c rs r.typ (wr.alloc (.cells #[.int .i64 r.typ, .int .i64 r.size, .int .i64 r.kind, .int .i64 r.low, .int .i64 r.high, .int .i64 r.good, .bool r.must] 39)) (HR.out.below HB1.out))
        clear hr hc
        go_wp2_with fail
        refine OF.out.mono ?_
        rintro e w2 ⟨(⟨i, hi, x, rfl, hx, h1, h2⟩ | ⟨rfl, hno⟩), hb2⟩
        · have HX := Lib.hid hx
          have hik : i ≤ k := Classical.byContradiction fun h => h2 k (by omega) (by rw [← HRK.out])
          have H1 := Lib.hid h1
          have H2 := Lib.hid h2
          have HG2 := Lib.hid (heap_below HGC.out hb2)
          have HB2 := Lib.hid (HB1.out.trans (hb2.mono HB1.out.size))
          clear h1 h2 hb2 hx OF c0 c1 c2 c3 c4 c5 c6 q0
          by_cases hlk : i < k
          · have HN : Hid (¬ areR rs) := fun h => by
              have := ((areR_iff rs).1 h).2 k (by omega) (by omega)
              exact this.2 i hlk (by rw [← HX.out, H1.out, HRK.out])
            go_wp2
            go_ret
            exact ⟨by rw [decide_eq_false HN.out]; rfl, (HB2.out.alloc HB2.out.size _)⟩
          · obtain rfl : i = k := by omega
            have HX2 : Hid (x = r) := HX.out.trans HRK.out.symm
            have hg3 : Gr w2 (w2.alloc (.cells #[.int .i64 x.typ, .int .i64 x.size, .int .i64 x.kind, .int .i64 x.low, .int .i64 x.high, .int .i64 x.good, .bool x.must] 56)) := (Gr.refl _).alloc _
            have HB3 := Lib.hid (HB2.out.trans (Below.mono hg3 HB2.out.size))
            have HG3 := Lib.hid (heap_gr hg3 HG2.out)
            obtain ⟨q0, q1, q2, q3, q4, q5, q6⟩ := cells7 HG3.out
            have MB := Lib.hid (mayBe_any r (w2.alloc (.cells #[.int .i64 x.typ, .int .i64 x.size, .int .i64 x.kind, .int .i64 x.low, .int .i64 x.high, .int .i64 x.good, .bool x.must] 56)))
            clear hg3
            by_cases hi2 : isR r
            · rw [decide_eq_true hi2] at MB
              have HOK2 : Hid (okTo rs (i + 1)) := HOK.out.next (by omega) (by rw [← HRK.out]; exact hi2) (fun j hj => by rw [← HX.out, H1.out]; exact H2.out j hj)
              clear hi2
              go_wp2_with fail
              refine MB.out.mono ?_
              rintro e w4 ⟨rfl, hb4⟩
              have HB4 := Lib.hid (HB3.out.trans (hb4.mono HB3.out.size))
              clear hb4
              go_wp2
              go_roundw
              case rel =>
                first | exact ⟨i + 1, by omega, by go_num, HOK2.out, HB4.out⟩ | ((repeat apply Exists.intro); exact ⟨⟨i + 1, by omega, by go_num, HOK2.out, HB4.out⟩, rfl⟩)
              case measure => simp [intOf]; omega
            · rw [decide_eq_false hi2] at MB
              have HN : Hid (¬ areR rs) := fun h => hi2 (by
                have := (((areR_iff rs).1 h).2 i (by omega) (by omega)).1
                rwa [← HRK.out] at this)
              clear hi2
              go_wp2_with fail
              refine MB.out.mono ?_
              rintro e w4 ⟨rfl, hb4⟩
              have HB4 := Lib.hid (HB3.out.trans (hb4.mono HB3.out.size))
              clear hb4
              go_wp2
              go_ret
              exact ⟨by rw [decide_eq_false HN.out]; rfl, HB4.out⟩
        · exact (hno k (by omega) (by rw [← HRK.out])).elim
      · obtain rfl : k = n := by omega
        have HA : Hid (areR rs) := (areR_iff rs).2 ⟨by omega, by rw [hl]; exact HOK.out⟩
        go_wp2
        go_ret
        exact ⟨by rw [decide_eq_true HA.out]; rfl, HB.out⟩
  · have HN : Hid (¬ areR rs) := fun h => h16 (by rw [← hl]; exact h.1)
    have hlt : (16 : Int) < (n : Int) := by omega
    clear h16
    go_enter Try.func23, Try.ntmps23
    go_wp2
    go_ret
    exact ⟨by rw [decide_eq_false HN.out]; rfl, Below.refl _ _⟩
theorem check_any (ao : Option Addr) (n c : Nat) (rs : List Ru) (w : World) (hr : RR w (.slice ao n c) n rs) :
    Calls Try.prog 13 #[.slice ao n c] w fun e w' => e = .returned (.int .i64 (if areR rs then 0 else 150)) ∧ Below w.heap.size w w' := by
  have MB := Lib.hid (mayBes_any ao n c rs w hr)
  clear hr
  by_cases h : areR rs
  · rw [decide_eq_true h] at MB
    rw [if_pos h]
    clear h
    go_enter Try.func13, Try.ntmps13
    go_wp2_with fail
    refine MB.out.mono ?_
    rintro e w4 ⟨rfl, hb4⟩
    have HB4 := Lib.hid hb4
    clear hb4
    go_wp2
    go_ret
    exact ⟨rfl, HB4.out⟩
  · rw [decide_eq_false h] at MB
    rw [if_neg h]
    clear h
    go_enter Try.func13, Try.ntmps13
    go_wp2_with fail
    refine MB.out.mono ?_
    rintro e w4 ⟨rfl, hb4⟩
    have HB4 := Lib.hid hb4
    clear hb4
    go_wp2
    go_ret
    exact ⟨rfl, HB4.out⟩
end Go.Proofs.Ytbldcjngccmhpaa.Ng
