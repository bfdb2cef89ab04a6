/-
  Free, leased and reserved addresses are the range, each once: whatever is asked of a pool of any range (conciergelaw12.PoolParts answers true). Condition: the library's table math/bits.deBruijn64tab starts as the program's text lays it (the tied card).
-/
import Derived.Test.YtoemghinolekgaaDoorPlJ
import Derived.Test.YtoemghinolekgaaDoorPlU
import Derived.Test.YtoemghinolekgaaDoorOpenR
namespace Go.Proofs.YtoemghinolekgaaDoor.poolParts
open Go.ChangeShapes Go.WideShapes Go.ChangeAt Go.RowKit
open Go.Proofs.YtoemghinolekgaaDoor.Pl
open Go.Proofs.YtoemghinolekgaaDoor.Id (IR Tr)
set_option linter.unusedVariables false
set_option linter.unusedSimpArgs false

theorem wf_in {x : Int} (h : (Lit.int .i64 x).wf = true) : -9223372036854775808 ≤ x ∧ x ≤ 9223372036854775807 := by
  simpa [Lit.wf, IntKind.min, IntKind.max, IntKind.signed, IntKind.bits] using h
/-- How often a number lies in a row. -/
def cntEq (x : Int) (l : List Int) : Nat := (l.filter fun y => decide (y = x)).length
theorem cntEq_le (x : Int) (l : List Int) : cntEq x l ≤ l.length := List.length_filter_le _ _
theorem cntEq_yes {x : Int} {l : List Int} {j : Nat} (hj : j < l.length) (h : l[j] = x) : cntEq x (l.take (j + 1)) = cntEq x (l.take j) + 1 := by
  unfold cntEq
  rw [List.take_add_one, List.getElem?_eq_getElem hj, List.filter_append, List.length_append]
  simp [h]
theorem cntEq_no {x : Int} {l : List Int} {j : Nat} (hj : j < l.length) (h : l[j] ≠ x) : cntEq x (l.take (j + 1)) = cntEq x (l.take j) := by
  unfold cntEq
  rw [List.take_add_one, List.getElem?_eq_getElem hj, List.filter_append, List.length_append]
  simp [h]
theorem cntEq_none {x : Int} {l : List Int} (h : x ∉ l) : cntEq x l = 0 := by
  unfold cntEq
  rw [List.length_eq_zero_iff, List.filter_eq_nil_iff]
  intro y hy e
  exact h (by have := of_decide_eq_true e; rw [← this]; exact hy)
theorem cntEq_one {x : Int} : ∀ {l : List Int}, l.Pairwise (· < ·) → x ∈ l → cntEq x l = 1
  | [], _, h => by cases h
  | y :: l, hp, h => by
    rw [List.pairwise_cons] at hp
    by_cases e : y = x
    · subst e
      have hn : y ∉ l := fun hm => by have := hp.1 y hm; omega
      have h2 := cntEq_none hn
      unfold cntEq at h2 ⊢
      rw [List.filter_cons, if_pos (by simp), List.length_cons, h2]
    · have hm : x ∈ l := by
        rcases List.mem_cons.1 h with h1 | h1
        · exact absurd h1.symm e
        · exact h1
      have h2 := cntEq_one hp.2 hm
      unfold cntEq at h2 ⊢
      rw [List.filter_cons, if_neg (by simpa using e), h2]
/-- How many of the first k places are free. -/
def cntF (S : Po) (k : Nat) : Nat := ((List.range k).filter fun i : Nat => !decide ((i : Int) ∈ S.res) && !decide (S.base + (i : Int) ∈ S.L)).length
theorem cntF_le (S : Po) (k : Nat) : cntF S k ≤ k := by
  have := List.length_filter_le (fun i : Nat => !decide ((i : Int) ∈ S.res) && !decide (S.base + (i : Int) ∈ S.L)) (List.range k)
  rw [List.length_range] at this
  exact this
theorem cntF_yes {S : Po} {k : Nat} (h1 : (k : Int) ∉ S.res) (h2 : S.base + (k : Int) ∉ S.L) : cntF S (k + 1) = cntF S k + 1 := by
  unfold cntF
  rw [List.range_succ, List.filter_append, List.length_append]
  simp [h1, h2]
theorem cntF_no {S : Po} {k : Nat} (h : (k : Int) ∈ S.res ∨ S.base + (k : Int) ∈ S.L) : cntF S (k + 1) = cntF S k := by
  unfold cntF
  rw [List.range_succ, List.filter_append, List.length_append]
  rcases h with h | h <;> simp [h]
theorem cntF_all (S : Po) : cntF S S.size = (freeL S).length := rfl
theorem small_wrap (p : Nat) (h : p ≤ 65536) : wrap64 ((p : Int) + 1) = ((p + 1 : Nat) : Int) := by rw [wrap64_in (by omega) (by omega)]; omega
theorem sum_wrap (p q : Nat) (h : p ≤ 65536) (h2 : q ≤ 65536) : wrap64 ((p : Int) + (q : Int)) = ((p + q : Nat) : Int) := by rw [wrap64_in (by omega) (by omega)]; omega
/-- The range that a pool has. -/
structure Rng (S : Po) (b : Int) (Z : Nat) (l : List Int) : Prop where
  base : S.base = b
  size : S.size = Z
  res : S.res = l
theorem Rng.take {S : Po} {b : Int} {Z : Nat} {l : List Int} (h : Rng S b Z l) : Rng (Pl.take S).1 b Z l := ⟨(take_range S).1.trans h.base, (take_range S).2.1.trans h.size, (take_range S).2.2.trans h.res⟩
theorem Rng.want {S : Po} {b : Int} {Z : Nat} {l : List Int} (h : Rng S b Z l) (a : Int) : Rng (Pl.want S a).1 b Z l := ⟨(want_range S a).1.trans h.base, (want_range S a).2.1.trans h.size, (want_range S a).2.2.trans h.res⟩
theorem Rng.give {S : Po} {b : Int} {Z : Nat} {l : List Int} (h : Rng S b Z l) (a : Int) : Rng (Pl.give S a).1 b Z l := ⟨(give_range S a).1.trans h.base, (give_range S a).2.1.trans h.size, (give_range S a).2.2.trans h.res⟩
set_option maxRecDepth 20000 in
set_option maxHeartbeats 8000000 in
theorem walk (W : World) (hl : Laid W) (b z : Int) (a : Option Addr) (n c : Nat) (l : List Int) (wb : (Lit.int .i64 b).wf = true) (wz : (Lit.int .i64 z).wf = true) (hn : l.length = n) (hr : Rd W 1 (.slice a n c) n (l.map (Value.int .i64)))
    (a1 : Option Addr) (n1 c1 : Nat) (qs : List Pq) (hqs : PqR W (.slice a1 n1 c1) n1 qs) :
    Calls Tryd.prog 5 #[.agg #[.int .i64 b, .int .i64 z, .slice a n c], .slice a1 n1 c1] W fun e w' => e = .returned (.bool true) ∧ Below W.heap.size W w' := by
  have hb := wf_in wb
  have hz := wf_in wz
  have HB1 : Hid (Below W.heap.size W (W.alloc (.cells #[.int .i64 b, .int .i64 z, .slice a n c] 24))) := (Below.refl _ _).alloc (Nat.le_refl _) _
  have HP1 : Hid ((W.alloc (.cells #[.int .i64 b, .int .i64 z, .slice a n c] 24)).heap[W.heap.size]? = some (.cells #[.int .i64 b, .int .i64 z, .slice a n c] 24 (0, 0))) := heap_alloc_last _ _
  have HIR : Hid (IR W (.slice a n c) l) := by show Rd _ _ _ _ _; rw [hn]; exact hr
  have HS := Lib.hid (small_any b z (W.alloc (.cells #[.int .i64 b, .int .i64 z, .slice a n c] 24)) (Rd.below HIR.out HB1.out))
  have hzs : -9223372036854775808 ≤ smallZ z ∧ smallZ z ≤ 9223372036854775807 := by unfold smallZ; split <;> omega
  have HSZ : Hid (smallZ z ≤ 65536 → smallZ z ≤ 60) := by show _ → _; unfold smallZ; split <;> omega
  obtain ⟨z2, hz2⟩ : ∃ q, q = smallZ z := ⟨_, rfl⟩
  rw [← hz2] at HS hzs HSZ
  obtain ⟨l2, hl2⟩ : ∃ q, q = l.take 70 := ⟨_, rfl⟩
  rw [← hl2] at HS
  have HLW := Lib.hid hl
  have HBZ : Hid ((-9223372036854775808 ≤ b ∧ b ≤ 9223372036854775807) ∧ -9223372036854775808 ≤ z2 ∧ z2 ≤ 9223372036854775807) := ⟨hb, hzs⟩
  clear wb wz hn hr hl hb hz hz2 hzs hl2
  have HQS := Lib.hid hqs
  have HN1 : Hid (n1 = qs.length) := hqs.len.symm
  have hn163 : (n1 : Int) ≤ 9223372036854775807 := by
    obtain ⟨_, _, e, h1, h2⟩ := hqs.rd.shape
    simp only [Value.slice.injEq] at e
    obtain ⟨_, q, rfl⟩ := e
    unfold maxLen at h2
    omega
  obtain ⟨i0, hi, hz0, hz1, hz2⟩ := info_parts infoI
  clear hqs
  go_enter Tryd.func5, Tryd.ntmps5
  go_wp2_with fail
  refine HS.out.mono ?_
  rintro e w1 ⟨a2, n2, c2, rfl, hn2, hrow, hb1⟩
  have HP := Lib.hid (heap_gr hb1 HP1.out)
  have HB := Lib.hid (HB1.out.trans (Below.mono hb1 HB1.out.size))
  have HI0 := Lib.hid (hrow _ HIR.out)
  have HN2 := Lib.hid hn2
  clear hrow hb1 HS HP1 HB1 hn2
  go_wp2_with (with_reducible refine wpList_store_range rfl _ _ rfl W.heap.size _ _ _ _ _ rfl rfl _ _ _ HP.out ?_)
  intro U h2 ho2
  have HPU := Lib.hid h2
  have HBU := Lib.hid (ho2.below W.heap.size W (Nat.le_refl _) HB.out)
  have HIU : Hid (IR U (.slice a2 n2 c2) l2) := Rd.below HI0.out HBU.out
  have HLU := Lib.hid (HLW.out.gr HBU.out)
  have HSU : Hid (W.heap.size < U.heap.size) := (Array.getElem?_eq_some_iff.1 HPU.out).1
  clear h2 ho2 HP HB HI0
  obtain ⟨k0, k1, k2⟩ := cells3' HPU.out
  cases hok : okB b z2 l2 with
  | false =>
    have HN1' := Lib.hid (new_no b z2 HBZ.out.1 HBZ.out.2 U HIU.out hok)
    clear hok
    go_wp2_with fail
    refine HN1'.out.mono ?_
    rintro e w3 ⟨rfl, hb3⟩
    have HG3 : Hid (Gr U w3) := hb3
    have HA := Lib.hid (awake_any w3 (HLU.out.gr hb3))
    clear hb3 HN1' k0 k1 k2
    go_wp2_with fail
    refine HA.out.mono ?_
    rintro e w5 ⟨rfl, hb5⟩
    have HB5 : Hid (Below W.heap.size W w5) := HBU.out.trans (Below.mono (HG3.out.trans hb5) HBU.out.size)
    clear hb5 HA
    go_wp2
    go_ret
    exact ⟨rfl, HB5.out⟩
  | true =>
    have hR := okB_iff.1 hok
    obtain ⟨Z, hZ⟩ : ∃ Z : Nat, (Z : Int) = z2 := ⟨z2.toNat, by have := hR.size; omega⟩
    subst hZ
    have HRR := Lib.hid hR
    have HN1' := Lib.hid (new_lp U b Z U (Below.refl _ _) HLU.out HIU.out hR)
    clear hok hR
    go_wp2_with fail
    refine HN1'.out.mono ?_
    rintro e w3 ⟨g, rfl, m, hp3, _, hb3⟩
    have HP3 := Lib.hid hp3
    have HA := Lib.hid (awake_any w3 (HLU.out.gr hb3))
    clear hb3 HN1' hp3 k0 k1 k2
    go_wp2_with fail
    refine HA.out.mono ?_
    rintro e w5 ⟨rfl, hb5⟩
    have HP5 := Lib.hid (HP3.out.gr hb5)
    have HBR := Lib.hid HRR.out.base
    clear hb5 HA HP3
    go_wp2_with fail
    go_loopw [7] (fun iv wr => ∃ (i : Nat) (m : Pm) (S : Po), i ≤ 60 ∧ iv = .int .i64 (i : Int) ∧ Hid (LP U g m wr S) ∧ Hid (Rng S b Z l2)) (fun iv _ => 60 - (intOf iv).toNat)
    case atStart => exact ⟨0, m, _, Nat.zero_le _, rfl, HP5, ⟨rfl, rfl, rfl⟩⟩
    case round =>
      clear HP5
      obtain ⟨i, m, S, hin, rfl, HP, HRG⟩ := hrel
      by_cases hlt : i < n1 ∧ i < 60
      · obtain ⟨hlt1, hlt2⟩ := hlt
        have hle : i + 1 ≤ 60 := by omega
        have hil : i < qs.length := by rw [← HN1.out]; exact hlt1
        obtain ⟨bb, o, ea, _, hcel⟩ := PqR.cells HQS.out (by omega)
        subst ea
        have HBW : Hid (Below W.heap.size W wr) := HBU.out.trans (Below.mono HP.out.low HBU.out.size)
        have HPR := Lib.hid (heap_below HPU.out HP.out.low)
        obtain ⟨q0, q1, q2⟩ := hcel i hil
        have e0 := cell_gr HBW.out q0
        have hav := wf_in (HQS.out.wf _ (List.getElem_mem hil))
        obtain ⟨d, hd⟩ : ∃ d, d = qs[i].what.toNat := ⟨_, rfl⟩
        obtain ⟨av, havv⟩ : ∃ av, av = qs[i].a := ⟨_, rfl⟩
        obtain ⟨iv, hivv⟩ : ∃ iv, iv = qs[i].inn := ⟨_, rfl⟩
        have hd256 : d < 256 := by rw [hd]; exact UInt8.toNat_lt _
        rw [← hd] at e0
        have E0 := Lib.hid e0
        have E1 := Lib.hid (cell_gr HBW.out q1)
        have E2 := Lib.hid (cell_gr HBW.out q2)
        rw [← havv] at E1 hav
        rw [← hivv] at E2
        clear q0 q1 q2 hcel hd havv hivv hil
        have HAT := Lib.hid (fun w => at_any b (Z : Int) (.slice a2 n2 c2) (d : Int) av iv HBR.out rfl w)
        obtain ⟨AD, hAD⟩ : ∃ AD, AD = atA b av iv := ⟨_, rfl⟩
        have HADL : Hid (AD ≤ 9223372036854775807) := by show _ ≤ _; rw [hAD]; exact atA_le HBR.out.2 hav.2
        rw [← hAD] at HAT
        have x2 : ((d : Int)).tmod 3 = ((d % 3 : Nat) : Int) := by rw [Int.tmod_eq_emod_of_nonneg (Int.natCast_nonneg _)]; rfl
        obtain ⟨r, hr⟩ : ∃ r, r = d % 3 := ⟨_, rfl⟩
        rw [← hr] at x2
        have hr3 : r < 3 := by omega
        have hi1 : (i : Int) < (n1 : Int) := by omega
        clear hr hd256 hAD hav
        rcases (show r = 0 ∨ r = 1 ∨ r = 2 by omega) with rfl | rfl | rfl
        · have HT := Lib.hid (take_lp HP.out)
          clear hr3
          go_wp2_with fail
          refine HT.out.mono ?_
          rintro e wm ⟨rfl, m2, hp2, ef, el, ht⟩
          have HPN := Lib.hid hp2
          have HRN := Lib.hid HRG.out.take
          clear hp2 ef el ht HT HP HRG E0 E1 E2 HAT HPR e0
          go_wp2_with fail
          go_roundw
          case rel =>
            first
              | exact ⟨i + 1, m2, _, hle, by go_num, HPN, HRN⟩
              | ((repeat apply Exists.intro); exact ⟨⟨i + 1, m2, _, hle, by go_num, HPN, HRN⟩, rfl⟩)
          case measure => simp [intOf]; omega
        · clear hr3
          go_upto_region 15 with fail
          have HC : Hid (Gr wr wr.drew) := Gr.drew wr
          refine wp_region_G 7 Gr (by kernel_rfl) ?_
          generalize wr.drew = wc at HC ⊢
          -- 0: slot 59
          refine wpG_take preGr (i := 0) (v := ?_) (by kernel_rfl) (some 59) (by kernel_rfl) rfl (by kernel_rfl) (by kernel_rfl) (by kernel_rfl) (fun _ _ _ h => h) (by rfl) (fun w' hw' => ?_) rfl ?_
          rotate_left
          · try (have hxx := cells3' (heap_gr (Gr.trans HC.out hw') HPR.out); obtain ⟨k0, k1, k2⟩ := hxx; have e0 := cell_gr (Gr.trans HC.out hw') E0.out; have e1 := cell_gr (Gr.trans HC.out hw') E1.out; have e2 := cell_gr (Gr.trans HC.out hw') E2.out)
            go_simp
            with_reducible rfl
          simp only [Act.put, List.setIfInBounds_toArray, List.set_cons_zero, List.set_cons_succ]
          -- 1: slot 60
          refine wpG_take preGr (i := 1) (v := ?_) (by kernel_rfl) (some 60) (by kernel_rfl) rfl (by kernel_rfl) (by kernel_rfl) (by kernel_rfl) (fun _ _ _ h => h) (by rfl) (fun w' hw' => ?_) rfl ?_
          rotate_left
          · try (have hxx := cells3' (heap_gr (Gr.trans HC.out hw') HPR.out); obtain ⟨k0, k1, k2⟩ := hxx; have e0 := cell_gr (Gr.trans HC.out hw') E0.out; have e1 := cell_gr (Gr.trans HC.out hw') E1.out; have e2 := cell_gr (Gr.trans HC.out hw') E2.out)
            go_simp
            with_reducible rfl
          simp only [Act.put, List.setIfInBounds_toArray, List.set_cons_zero, List.set_cons_succ]
          -- 2: slot 61
          refine wpG_take preGr (i := 2) (v := ?_) (by kernel_rfl) (some 61) (by kernel_rfl) rfl (by kernel_rfl) (by kernel_rfl) (by kernel_rfl) (fun _ _ _ h => h) (by rfl) (fun w' hw' => ?_) rfl ?_
          rotate_left
          · try (have hxx := cells3' (heap_gr (Gr.trans HC.out hw') HPR.out); obtain ⟨k0, k1, k2⟩ := hxx; have e0 := cell_gr (Gr.trans HC.out hw') E0.out; have e1 := cell_gr (Gr.trans HC.out hw') E1.out; have e2 := cell_gr (Gr.trans HC.out hw') E2.out)
            go_simp
            with_reducible rfl
          simp only [Act.put, List.setIfInBounds_toArray, List.set_cons_zero, List.set_cons_succ]
          -- 3: slot 62
          refine wpG_take preGr (i := 3) (v := ?_) (by kernel_rfl) (some 62) (by kernel_rfl) rfl (by kernel_rfl) (by kernel_rfl) (by kernel_rfl) (fun _ _ _ h => h) (by rfl) (fun w' hw' => ?_) rfl ?_
          rotate_left
          · try (have hxx := cells3' (heap_gr (Gr.trans HC.out hw') HPR.out); obtain ⟨k0, k1, k2⟩ := hxx; have e0 := cell_gr (Gr.trans HC.out hw') E0.out; have e1 := cell_gr (Gr.trans HC.out hw') E1.out; have e2 := cell_gr (Gr.trans HC.out hw') E2.out)
            go_simp
            with_reducible rfl
          simp only [Act.put, List.setIfInBounds_toArray, List.set_cons_zero, List.set_cons_succ]
          -- 4: slot 63
          refine wpG_take preGr (i := 4) (v := ?_) (by kernel_rfl) (some 63) (by kernel_rfl) rfl (by kernel_rfl) (by kernel_rfl) (by kernel_rfl) (fun _ _ _ h => h) (by rfl) (fun w' hw' => ?_) rfl ?_
          rotate_left
          · try (have hxx := cells3' (heap_gr (Gr.trans HC.out hw') HPR.out); obtain ⟨k0, k1, k2⟩ := hxx; have e0 := cell_gr (Gr.trans HC.out hw') E0.out; have e1 := cell_gr (Gr.trans HC.out hw') E1.out; have e2 := cell_gr (Gr.trans HC.out hw') E2.out)
            go_simp
            with_reducible rfl
          simp only [Act.put, List.setIfInBounds_toArray, List.set_cons_zero, List.set_cons_succ]
          -- 5: slot 64
          refine wpG_take preGr (i := 5) (v := ?_) (by kernel_rfl) (some 64) (by kernel_rfl) rfl (by kernel_rfl) (by kernel_rfl) (by kernel_rfl) (fun _ _ _ h => h) (by rfl) (fun w' hw' => ?_) rfl ?_
          rotate_left
          · try (have hxx := cells3' (heap_gr (Gr.trans HC.out hw') HPR.out); obtain ⟨k0, k1, k2⟩ := hxx; have e0 := cell_gr (Gr.trans HC.out hw') E0.out; have e1 := cell_gr (Gr.trans HC.out hw') E1.out; have e2 := cell_gr (Gr.trans HC.out hw') E2.out)
            go_simp
            with_reducible rfl
          simp only [Act.put, List.setIfInBounds_toArray, List.set_cons_zero, List.set_cons_succ]
          refine wpG_one (i := 6) rfl (by kernel_rfl) (by rfl) ?_
          go_simp
          refine (HAT.out wc).mono ?_
          rintro e wn ⟨rfl, hb⟩
          refine ⟨hb, ?_⟩
          have HC' : Hid (Gr wr wn) := Gr.trans HC.out hb
          clear HC hb
          have HC := HC'
          clear HC'
          obtain ⟨wc, hwc⟩ : ∃ x, x = wn := ⟨_, rfl⟩
          subst hwc
          try simp only [Act.put, List.setIfInBounds_toArray, List.set_cons_zero, List.set_cons_succ]
          refine wpG_tail (i := 7) (by decide) rfl (by kernel_rfl) (by rfl) ?_
          go_simp
          refine (give_lp (HP.out.gr HC.out) AD HADL.out).mono ?_
          rintro e wm ⟨rfl, m2, hp2, ef, el, ht⟩
          have HPN := Lib.hid hp2
          have HRN := Lib.hid (HRG.out.give AD)
          clear hp2 ef el ht
          try simp only [Act.put, List.setIfInBounds_toArray, List.set_cons_zero, List.set_cons_succ]
          refine wpG_done (by kernel_rfl) ?_ _
          clear HC HP HRG E0 E1 E2 HAT HPR
          go_wp2_with fail
          go_roundw
          case rel =>
            first
              | exact ⟨i + 1, m2, _, hle, by go_num, HPN, HRN⟩
              | ((repeat apply Exists.intro); exact ⟨⟨i + 1, m2, _, hle, by go_num, HPN, HRN⟩, rfl⟩)
          case measure => simp [intOf]; omega
        · clear hr3
          go_upto_region 11 with fail
          have HC : Hid (Gr wr wr.drew) := Gr.drew wr
          refine wp_region_G 7 Gr (by kernel_rfl) ?_
          generalize wr.drew = wc at HC ⊢
          -- 0: slot 45
          refine wpG_take preGr (i := 0) (v := ?_) (by kernel_rfl) (some 45) (by kernel_rfl) rfl (by kernel_rfl) (by kernel_rfl) (by kernel_rfl) (fun _ _ _ h => h) (by rfl) (fun w' hw' => ?_) rfl ?_
          rotate_left
          · try (have hxx := cells3' (heap_gr (Gr.trans HC.out hw') HPR.out); obtain ⟨k0, k1, k2⟩ := hxx; have e0 := cell_gr (Gr.trans HC.out hw') E0.out; have e1 := cell_gr (Gr.trans HC.out hw') E1.out; have e2 := cell_gr (Gr.trans HC.out hw') E2.out)
            go_simp
            with_reducible rfl
          simp only [Act.put, List.setIfInBounds_toArray, List.set_cons_zero, List.set_cons_succ]
          -- 1: slot 46
          refine wpG_take preGr (i := 1) (v := ?_) (by kernel_rfl) (some 46) (by kernel_rfl) rfl (by kernel_rfl) (by kernel_rfl) (by kernel_rfl) (fun _ _ _ h => h) (by rfl) (fun w' hw' => ?_) rfl ?_
          rotate_left
          · try (have hxx := cells3' (heap_gr (Gr.trans HC.out hw') HPR.out); obtain ⟨k0, k1, k2⟩ := hxx; have e0 := cell_gr (Gr.trans HC.out hw') E0.out; have e1 := cell_gr (Gr.trans HC.out hw') E1.out; have e2 := cell_gr (Gr.trans HC.out hw') E2.out)
            go_simp
            with_reducible rfl
          simp only [Act.put, List.setIfInBounds_toArray, List.set_cons_zero, List.set_cons_succ]
          -- 2: slot 47
          refine wpG_take preGr (i := 2) (v := ?_) (by kernel_rfl) (some 47) (by kernel_rfl) rfl (by kernel_rfl) (by kernel_rfl) (by kernel_rfl) (fun _ _ _ h => h) (by rfl) (fun w' hw' => ?_) rfl ?_
          rotate_left
          · try (have hxx := cells3' (heap_gr (Gr.trans HC.out hw') HPR.out); obtain ⟨k0, k1, k2⟩ := hxx; have e0 := cell_gr (Gr.trans HC.out hw') E0.out; have e1 := cell_gr (Gr.trans HC.out hw') E1.out; have e2 := cell_gr (Gr.trans HC.out hw') E2.out)
            go_simp
            with_reducible rfl
          simp only [Act.put, List.setIfInBounds_toArray, List.set_cons_zero, List.set_cons_succ]
          -- 3: slot 48
          refine wpG_take preGr (i := 3) (v := ?_) (by kernel_rfl) (some 48) (by kernel_rfl) rfl (by kernel_rfl) (by kernel_rfl) (by kernel_rfl) (fun _ _ _ h => h) (by rfl) (fun w' hw' => ?_) rfl ?_
          rotate_left
          · try (have hxx := cells3' (heap_gr (Gr.trans HC.out hw') HPR.out); obtain ⟨k0, k1, k2⟩ := hxx; have e0 := cell_gr (Gr.trans HC.out hw') E0.out; have e1 := cell_gr (Gr.trans HC.out hw') E1.out; have e2 := cell_gr (Gr.trans HC.out hw') E2.out)
            go_simp
            with_reducible rfl
          simp only [Act.put, List.setIfInBounds_toArray, List.set_cons_zero, List.set_cons_succ]
          -- 4: slot 49
          refine wpG_take preGr (i := 4) (v := ?_) (by kernel_rfl) (some 49) (by kernel_rfl) rfl (by kernel_rfl) (by kernel_rfl) (by kernel_rfl) (fun _ _ _ h => h) (by rfl) (fun w' hw' => ?_) rfl ?_
          rotate_left
          · try (have hxx := cells3' (heap_gr (Gr.trans HC.out hw') HPR.out); obtain ⟨k0, k1, k2⟩ := hxx; have e0 := cell_gr (Gr.trans HC.out hw') E0.out; have e1 := cell_gr (Gr.trans HC.out hw') E1.out; have e2 := cell_gr (Gr.trans HC.out hw') E2.out)
            go_simp
            with_reducible rfl
          simp only [Act.put, List.setIfInBounds_toArray, List.set_cons_zero, List.set_cons_succ]
          -- 5: slot 50
          refine wpG_take preGr (i := 5) (v := ?_) (by kernel_rfl) (some 50) (by kernel_rfl) rfl (by kernel_rfl) (by kernel_rfl) (by kernel_rfl) (fun _ _ _ h => h) (by rfl) (fun w' hw' => ?_) rfl ?_
          rotate_left
          · try (have hxx := cells3' (heap_gr (Gr.trans HC.out hw') HPR.out); obtain ⟨k0, k1, k2⟩ := hxx; have e0 := cell_gr (Gr.trans HC.out hw') E0.out; have e1 := cell_gr (Gr.trans HC.out hw') E1.out; have e2 := cell_gr (Gr.trans HC.out hw') E2.out)
            go_simp
            with_reducible rfl
          simp only [Act.put, List.setIfInBounds_toArray, List.set_cons_zero, List.set_cons_succ]
          refine wpG_one (i := 6) rfl (by kernel_rfl) (by rfl) ?_
          go_simp
          refine (HAT.out wc).mono ?_
          rintro e wn ⟨rfl, hb⟩
          refine ⟨hb, ?_⟩
          have HC' : Hid (Gr wr wn) := Gr.trans HC.out hb
          clear HC hb
          have HC := HC'
          clear HC'
          obtain ⟨wc, hwc⟩ : ∃ x, x = wn := ⟨_, rfl⟩
          subst hwc
          try simp only [Act.put, List.setIfInBounds_toArray, List.set_cons_zero, List.set_cons_succ]
          refine wpG_tail (i := 7) (by decide) rfl (by kernel_rfl) (by rfl) ?_
          go_simp
          refine (want_lp (HP.out.gr HC.out) AD HADL.out).mono ?_
          rintro e wm ⟨rfl, m2, hp2, ef, el, ht⟩
          have HPN := Lib.hid hp2
          have HRN := Lib.hid (HRG.out.want AD)
          clear hp2 ef el ht
          try simp only [Act.put, List.setIfInBounds_toArray, List.set_cons_zero, List.set_cons_succ]
          refine wpG_done (by kernel_rfl) ?_ _
          clear HC HP HRG E0 E1 E2 HAT HPR
          go_wp2_with fail
          go_roundw
          case rel =>
            first
              | exact ⟨i + 1, m2, _, hle, by go_num, HPN, HRN⟩
              | ((repeat apply Exists.intro); exact ⟨⟨i + 1, m2, _, hle, by go_num, HPN, HRN⟩, rfl⟩)
          case measure => simp [intOf]; omega
      · by_cases hlt1 : i < n1
        · have hlt2 : ¬ i < 60 := fun h => hlt ⟨hlt1, h⟩
          clear hlt
          have HLP := Lib.hid (leased_lp HP.out)
          have hfew := OkP.few HP.out.po.ok
          have hZ60 : Z ≤ 60 := by have := HSZ.out; have := HRR.out.size; omega
          have hL60 : S.L.length ≤ 60 := by rw [HRG.out.size] at hfew; omega
          have hpar := parts HP.out.po.ok
          rw [HRG.out.size, HRG.out.res] at hpar
          obtain ⟨nl, hnl⟩ : ∃ nl, nl = S.L.length := ⟨_, rfl⟩
          rw [← hnl] at hpar hL60
          have HNL := Lib.hid hnl
          have hn60 : n2 ≤ 60 := by have := HN2.out; omega
          have HPAR : Hid ((freeL S).length + n2 + nl = Z) := by show _ = _; rw [HN2.out]; exact hpar
          clear hfew hpar hnl
          go_wp2_with fail
          refine HLP.out.mono ?_
          rintro e w6 ⟨v6, rfl, ho6, hb6, hl6⟩
          obtain ⟨A6, C6, ev, _, _⟩ := (own_rd ho6).shape
          rw [← HNL.out] at ev
          subst ev
          have HIL : Hid (IR w6 (.slice A6 nl C6) S.L) := by
            have := own_rd ho6
            exact this
          have HIV : Hid (IR w6 (.slice a2 n2 c2) l2) := Rd.below HIU.out hl6.low
          have HL6 := Lib.hid hl6
          have HPR6 := Lib.hid (heap_below HPU.out hl6.low)
          clear ho6 hb6 hl6 HLP HP
          go_wp2_with fail
          go_loopw [9, 10] (fun cv kv wr => ∃ k : Nat, k ≤ Z ∧ kv = .int .i64 (k : Int) ∧ cv = .int .i64 (cntF S k : Nat) ∧ w6 = wr) (fun _ kv _ => Z - (intOf kv).toNat)
          case atStart => exact ⟨0, Nat.zero_le _, rfl, rfl, rfl⟩
          case round =>
            obtain ⟨k, hkZ, rfl, rfl, rfl⟩ := hrel
            obtain ⟨k0, k1, k2⟩ := cells3' HPR6.out
            by_cases hk : k < Z
            · have hbr := HBR.out
              have hkz : (k : Int) < (Z : Int) := by omega
              have x1 : wrap64 (b + (k : Int)) = b + (k : Int) := wrap64_in (by omega) (by omega)
              obtain ⟨AD, hAD⟩ : ∃ AD, AD = b + (k : Int) := ⟨_, rfl⟩
              rw [← hAD] at x1
              have HAD := Lib.hid hAD
              have hcF := cntF_le S k
              obtain ⟨cf, hcf⟩ : ∃ cf, cf = cntF S k := ⟨_, rfl⟩
              rw [← hcf] at hcF ⊢
              have HCF := Lib.hid hcf
              have hlek : k + 1 ≤ Z := by omega
              clear hbr hAD hcf
              go_wp2_with fail
              try rw [← HAD.out]
              try rw [x1]
              clear x1
              go_loopw [12, 14] (fun cv jv wr => ∃ j : Nat, j ≤ nl ∧ jv = .int .i64 (j : Int) ∧ cv = .int .i64 (cntEq AD (S.L.take j) : Nat) ∧ w6 = wr) (fun _ jv _ => nl - (intOf jv).toNat)
              case atStart => exact ⟨0, Nat.zero_le _, rfl, rfl, rfl⟩
              case round =>
                obtain ⟨j, hjn, rfl, rfl, rfl⟩ := hrel
                by_cases hj : j < nl
                · have hjl : j < S.L.length := by rw [← HNL.out]; exact hj
                  obtain ⟨bh, oh, ea, hch⟩ := IR.at HIL.out HNL.out (by omega)
                  subst ea
                  have eh := hch j hjl
                  have hcl := cntEq_le AD (S.L.take j)
                  rw [List.length_take] at hcl
                  have hyes := cntEq_yes (x := AD) hjl
                  have hno := cntEq_no (x := AD) hjl
                  obtain ⟨y, hy⟩ : ∃ y, y = S.L[j] := ⟨_, rfl⟩
                  rw [← hy] at eh hyes hno
                  obtain ⟨cc, hcc⟩ : ∃ cc, cc = cntEq AD (S.L.take j) := ⟨_, rfl⟩
                  rw [← hcc] at hcl hyes hno ⊢
                  have hle9 : j + 1 ≤ nl := by omega
                  have hcc60 : cc ≤ 65536 := by omega
                  clear hch hy hjl hcl hcc
                  by_cases he : y = AD
                  · have hyx : (y == AD) = true := by simpa using he
                    have z1 := small_wrap cc hcc60
                    have HY := Lib.hid (hyes he)
                    clear hyes hno he hcc60
                    go_wp2_with fail
                    go_roundw
                    case rel =>
                      first
                        | exact ⟨j + 1, hle9, by go_num, by rw [HY.out]; first | rfl | rw [z1], trivial⟩
                        | exact ⟨j + 1, hle9, by go_num, by rw [HY.out]; first | rfl | rw [z1], rfl⟩
                        | ((repeat apply Exists.intro); exact ⟨⟨j + 1, hle9, by go_num, by rw [HY.out]; first | rfl | rw [z1], rfl⟩, rfl⟩)
                    case measure => simp [intOf]; omega
                  · have hyx : (y == AD) = false := by simpa using he
                    have HY := Lib.hid (hno he)
                    clear hyes hno he hcc60
                    go_wp2_with fail
                    go_roundw
                    case rel =>
                      first
                        | exact ⟨j + 1, hle9, by go_num, by rw [HY.out], trivial⟩
                        | exact ⟨j + 1, hle9, by go_num, by rw [HY.out], rfl⟩
                        | ((repeat apply Exists.intro); exact ⟨⟨j + 1, hle9, by go_num, by rw [HY.out], rfl⟩, rfl⟩)
                    case measure => simp [intOf]; omega
                · have hT : S.L.take j = S.L := List.take_of_length_le (by have := HNL.out; omega)
                  rw [hT]
                  obtain ⟨cL, hcL⟩ : ∃ cL, cL = cntEq AD S.L := ⟨_, rfl⟩
                  rw [← hcL]
                  have HCL := Lib.hid hcL
                  have hjj : ¬ (j : Int) < (nl : Int) := by omega
                  clear hT hcL
                  go_wp2_with fail
                  go_loopw [13, 15] (fun cv jv wr => ∃ j : Nat, j ≤ n2 ∧ jv = .int .i64 (j : Int) ∧ cv = .int .i64 (cntEq (k : Int) (l2.take j) : Nat) ∧ w6 = wr) (fun _ jv _ => n2 - (intOf jv).toNat)
                  case atStart => exact ⟨0, Nat.zero_le _, rfl, rfl, rfl⟩
                  case round =>
                    obtain ⟨q, hqn, rfl, rfl, rfl⟩ := hrel
                    obtain ⟨k0, k1, k2⟩ := cells3' HPR6.out
                    by_cases hq : q < n2
                    · have hql : q < l2.length := by rw [← HN2.out]; exact hq
                      obtain ⟨bh, oh, ea, hch⟩ := IR.at HIV.out HN2.out (by omega)
                      subst ea
                      have eh := hch q hql
                      have hcl := cntEq_le (k : Int) (l2.take q)
                      rw [List.length_take] at hcl
                      have hyes := cntEq_yes (x := (k : Int)) hql
                      have hno := cntEq_no (x := (k : Int)) hql
                      obtain ⟨y, hy⟩ : ∃ y, y = l2[q] := ⟨_, rfl⟩
                      rw [← hy] at eh hyes hno
                      obtain ⟨cc, hcc⟩ : ∃ cc, cc = cntEq (k : Int) (l2.take q) := ⟨_, rfl⟩
                      rw [← hcc] at hcl hyes hno ⊢
                      have hle9 : q + 1 ≤ n2 := by omega
                      have hcc60 : cc ≤ 65536 := by omega
                      clear hch hy hql hcl hcc
                      by_cases he : y = (k : Int)
                      · have hyx : (y == (k : Int)) = true := by simpa using he
                        have z1 := small_wrap cc hcc60
                        have HY := Lib.hid (hyes he)
                        clear hyes hno he hcc60
                        go_wp2_with fail
                        go_roundw
                        case rel =>
                          first
                            | exact ⟨q + 1, hle9, by go_num, by rw [HY.out]; first | rfl | rw [z1], trivial⟩
                            | exact ⟨q + 1, hle9, by go_num, by rw [HY.out]; first | rfl | rw [z1], rfl⟩
                            | ((repeat apply Exists.intro); exact ⟨⟨q + 1, hle9, by go_num, by rw [HY.out]; first | rfl | rw [z1], rfl⟩, rfl⟩)
                        case measure => simp [intOf]; omega
                      · have hyx : (y == (k : Int)) = false := by simpa using he
                        have HY := Lib.hid (hno he)
                        clear hyes hno he hcc60
                        go_wp2_with fail
                        go_roundw
                        case rel =>
                          first
                            | exact ⟨q + 1, hle9, by go_num, by rw [HY.out], trivial⟩
                            | exact ⟨q + 1, hle9, by go_num, by rw [HY.out], rfl⟩
                            | ((repeat apply Exists.intro); exact ⟨⟨q + 1, hle9, by go_num, by rw [HY.out], rfl⟩, rfl⟩)
                        case measure => simp [intOf]; omega
                    · have hT : l2.take q = l2 := List.take_of_length_le (by have := HN2.out; omega)
                      rw [hT]
                      obtain ⟨cR, hcR⟩ : ∃ cR, cR = cntEq (k : Int) l2 := ⟨_, rfl⟩
                      rw [← hcR]
                      have HCR := Lib.hid hcR
                      have hqq : ¬ (q : Int) < (n2 : Int) := by omega
                      have hhs := has_lp HL6.out AD (by rw [HAD.out]; have := HBR.out; omega)
                      have hhv : has S AD = !decide ((k : Int) ∈ l2) := by
                        unfold has
                        rw [HAD.out, HRG.out.base, HRG.out.size, HRG.out.res, show b + (k : Int) - b = (k : Int) by omega]
                        by_cases hm : (k : Int) ∈ l2
                        · simp [hm]
                        · simp [hm]; omega
                      rw [hhv] at hhs
                      clear hT hcR hhv
                      by_cases hm : (k : Int) ∈ l2
                      · have hc1 : cR = 1 := HCR.out.trans (cntEq_one HRR.out.rise hm)
                        have hc0 : cL = 0 := HCL.out.trans (cntEq_none fun hl => by
                          have h1 := (HL6.out.po.ok.inL hl).2.2
                          rw [HRG.out.base, HRG.out.res, HAD.out, show b + (k : Int) - b = (k : Int) by omega] at h1
                          exact h1 hm)
                        have hcn : cntF S (k + 1) = cf := (cntF_no (.inl (by rw [HRG.out.res]; exact hm))).trans HCF.out.symm
                        rw [decide_eq_true hm] at hhs
                        have HHS := Lib.hid hhs
                        have HCN := Lib.hid hcn
                        subst hc1
                        subst hc0
                        clear hhs hm hcn
                        go_wp2_with fail
                        refine HHS.out.mono ?_
                        rintro e w' ⟨rfl, rfl⟩
                        go_wp2_with fail
                        go_roundw
                        case rel =>
                          first
                            | exact ⟨k + 1, hlek, by go_num, by rw [HCN.out], trivial⟩
                            | exact ⟨k + 1, hlek, by go_num, by rw [HCN.out], rfl⟩
                            | ((repeat apply Exists.intro); exact ⟨⟨k + 1, hlek, by go_num, by rw [HCN.out], rfl⟩, rfl⟩)
                        case measure => simp [intOf]; omega
                      · have hc0 : cR = 0 := HCR.out.trans (cntEq_none hm)
                        rw [decide_eq_false hm] at hhs
                        have HHS := Lib.hid hhs
                        subst hc0
                        by_cases hl : AD ∈ S.L
                        · have hc1 : cL = 1 := HCL.out.trans (cntEq_one HL6.out.po.ok.rise hl)
                          have hcn : cntF S (k + 1) = cf := (cntF_no (.inr (by rw [HRG.out.base, ← HAD.out]; exact hl))).trans HCF.out.symm
                          have HCN := Lib.hid hcn
                          subst hc1
                          clear hhs hm hcn hl
                          go_wp2_with fail
                          refine HHS.out.mono ?_
                          rintro e w' ⟨rfl, rfl⟩
                          go_wp2_with fail
                          go_roundw
                          case rel =>
                            first
                              | exact ⟨k + 1, hlek, by go_num, by rw [HCN.out], trivial⟩
                              | exact ⟨k + 1, hlek, by go_num, by rw [HCN.out], rfl⟩
                              | ((repeat apply Exists.intro); exact ⟨⟨k + 1, hlek, by go_num, by rw [HCN.out], rfl⟩, rfl⟩)
                          case measure => simp [intOf]; omega
                        · have hc1 : cL = 0 := HCL.out.trans (cntEq_none hl)
                          have hcn : cntF S (k + 1) = cf + 1 := by
                            rw [HCF.out]
                            exact cntF_yes (by rw [HRG.out.res]; exact hm) (by rw [HRG.out.base, ← HAD.out]; exact hl)
                          have z1 := small_wrap cf (by omega)
                          have HCN := Lib.hid hcn
                          subst hc1
                          have Z1 := Lib.hid z1
                          clear hhs hm hcn hl z1
                          go_wp2_with fail
                          refine HHS.out.mono ?_
                          rintro e w' ⟨rfl, rfl⟩
                          go_wp2_with fail
                          go_roundw
                          case rel =>
                            first
                              | exact ⟨k + 1, hlek, by go_num, by rw [HCN.out]; go_num, trivial⟩
                              | exact ⟨k + 1, hlek, by go_num, by rw [HCN.out]; go_num, rfl⟩
                              | ((repeat apply Exists.intro); exact ⟨⟨k + 1, hlek, by go_num, by rw [HCN.out]; go_num, rfl⟩, rfl⟩)
                          case measure => simp [intOf]; omega
            · have hkk : k = Z := by omega
              have hfr := free_lp HL6.out
              have hfe := free_eq HL6.out.po.ok
              have hcs : cntF S k = (freeL S).length := by rw [hkk, ← HRG.out.size]; exact cntF_all S
              rw [hcs]
              obtain ⟨fL, hfL⟩ : ∃ fL, fL = (freeL S).length := ⟨_, rfl⟩
              have hpar := HPAR.out
              rw [← hfL] at hfe hpar ⊢
              rw [← hfe] at hfr
              have HFR := Lib.hid hfr
              have y1 : wrap64 ((fL : Int) + (nl : Int)) = ((fL + nl : Nat) : Int) := sum_wrap _ _ (by omega) (by omega)
              obtain ⟨s1, hs1⟩ : ∃ s1, s1 = fL + nl := ⟨_, rfl⟩
              rw [← hs1] at y1
              have y2 : wrap64 ((s1 : Int) + (n2 : Int)) = (Z : Int) := by rw [wrap64_in (by omega) (by omega)]; omega
              have hff : ((fL : Int) == (fL : Int)) = true := by simp
              have hzz : ((Z : Int) == (Z : Int)) = true := by simp
              have HLAST : Hid (Below W.heap.size W w6) := HBU.out.trans (Below.mono HL6.out.low HBU.out.size)
              have hkz : ¬ (k : Int) < (Z : Int) := by omega
              clear hfr hfe hcs hpar hs1 hfL hkk
              go_wp2_with fail
              refine HFR.out.mono ?_
              rintro e w' ⟨rfl, rfl⟩
              go_wp2
              go_ret
              exact ⟨rfl, HLAST.out⟩
        · clear hlt
          have HLP := Lib.hid (leased_lp HP.out)
          have hfew := OkP.few HP.out.po.ok
          have hZ60 : Z ≤ 60 := by have := HSZ.out; have := HRR.out.size; omega
          have hL60 : S.L.length ≤ 60 := by rw [HRG.out.size] at hfew; omega
          have hpar := parts HP.out.po.ok
          rw [HRG.out.size, HRG.out.res] at hpar
          obtain ⟨nl, hnl⟩ : ∃ nl, nl = S.L.length := ⟨_, rfl⟩
          rw [← hnl] at hpar hL60
          have HNL := Lib.hid hnl
          have hn60 : n2 ≤ 60 := by have := HN2.out; omega
          have HPAR : Hid ((freeL S).length + n2 + nl = Z) := by show _ = _; rw [HN2.out]; exact hpar
          clear hfew hpar hnl
          go_wp2_with fail
          refine HLP.out.mono ?_
          rintro e w6 ⟨v6, rfl, ho6, hb6, hl6⟩
          obtain ⟨A6, C6, ev, _, _⟩ := (own_rd ho6).shape
          rw [← HNL.out] at ev
          subst ev
          have HIL : Hid (IR w6 (.slice A6 nl C6) S.L) := by
            have := own_rd ho6
            exact this
          have HIV : Hid (IR w6 (.slice a2 n2 c2) l2) := Rd.below HIU.out hl6.low
          have HL6 := Lib.hid hl6
          have HPR6 := Lib.hid (heap_below HPU.out hl6.low)
          clear ho6 hb6 hl6 HLP HP
          go_wp2_with fail
          go_loopw [9, 10] (fun cv kv wr => ∃ k : Nat, k ≤ Z ∧ kv = .int .i64 (k : Int) ∧ cv = .int .i64 (cntF S k : Nat) ∧ w6 = wr) (fun _ kv _ => Z - (intOf kv).toNat)
          case atStart => exact ⟨0, Nat.zero_le _, rfl, rfl, rfl⟩
          case round =>
            obtain ⟨k, hkZ, rfl, rfl, rfl⟩ := hrel
            obtain ⟨k0, k1, k2⟩ := cells3' HPR6.out
            by_cases hk : k < Z
            · have hbr := HBR.out
              have hkz : (k : Int) < (Z : Int) := by omega
              have x1 : wrap64 (b + (k : Int)) = b + (k : Int) := wrap64_in (by omega) (by omega)
              obtain ⟨AD, hAD⟩ : ∃ AD, AD = b + (k : Int) := ⟨_, rfl⟩
              rw [← hAD] at x1
              have HAD := Lib.hid hAD
              have hcF := cntF_le S k
              obtain ⟨cf, hcf⟩ : ∃ cf, cf = cntF S k := ⟨_, rfl⟩
              rw [← hcf] at hcF ⊢
              have HCF := Lib.hid hcf
              have hlek : k + 1 ≤ Z := by omega
              clear hbr hAD hcf
              go_wp2_with fail
              try rw [← HAD.out]
              try rw [x1]
              clear x1
              go_loopw [12, 14] (fun cv jv wr => ∃ j : Nat, j ≤ nl ∧ jv = .int .i64 (j : Int) ∧ cv = .int .i64 (cntEq AD (S.L.take j) : Nat) ∧ w6 = wr) (fun _ jv _ => nl - (intOf jv).toNat)
              case atStart => exact ⟨0, Nat.zero_le _, rfl, rfl, rfl⟩
              case round =>
                obtain ⟨j, hjn, rfl, rfl, rfl⟩ := hrel
                by_cases hj : j < nl
                · have hjl : j < S.L.length := by rw [← HNL.out]; exact hj
                  obtain ⟨bh, oh, ea, hch⟩ := IR.at HIL.out HNL.out (by omega)
                  subst ea
                  have eh := hch j hjl
                  have hcl := cntEq_le AD (S.L.take j)
                  rw [List.length_take] at hcl
                  have hyes := cntEq_yes (x := AD) hjl
                  have hno := cntEq_no (x := AD) hjl
                  obtain ⟨y, hy⟩ : ∃ y, y = S.L[j] := ⟨_, rfl⟩
                  rw [← hy] at eh hyes hno
                  obtain ⟨cc, hcc⟩ : ∃ cc, cc = cntEq AD (S.L.take j) := ⟨_, rfl⟩
                  rw [← hcc] at hcl hyes hno ⊢
                  have hle9 : j + 1 ≤ nl := by omega
                  have hcc60 : cc ≤ 65536 := by omega
                  clear hch hy hjl hcl hcc
                  by_cases he : y = AD
                  · have hyx : (y == AD) = true := by simpa using he
                    have z1 := small_wrap cc hcc60
                    have HY := Lib.hid (hyes he)
                    clear hyes hno he hcc60
                    go_wp2_with fail
                    go_roundw
                    case rel =>
                      first
                        | exact ⟨j + 1, hle9, by go_num, by rw [HY.out]; first | rfl | rw [z1], trivial⟩
                        | exact ⟨j + 1, hle9, by go_num, by rw [HY.out]; first | rfl | rw [z1], rfl⟩
                        | ((repeat apply Exists.intro); exact ⟨⟨j + 1, hle9, by go_num, by rw [HY.out]; first | rfl | rw [z1], rfl⟩, rfl⟩)
                    case measure => simp [intOf]; omega
                  · have hyx : (y == AD) = false := by simpa using he
                    have HY := Lib.hid (hno he)
                    clear hyes hno he hcc60
                    go_wp2_with fail
                    go_roundw
                    case rel =>
                      first
                        | exact ⟨j + 1, hle9, by go_num, by rw [HY.out], trivial⟩
                        | exact ⟨j + 1, hle9, by go_num, by rw [HY.out], rfl⟩
                        | ((repeat apply Exists.intro); exact ⟨⟨j + 1, hle9, by go_num, by rw [HY.out], rfl⟩, rfl⟩)
                    case measure => simp [intOf]; omega
                · have hT : S.L.take j = S.L := List.take_of_length_le (by have := HNL.out; omega)
                  rw [hT]
                  obtain ⟨cL, hcL⟩ : ∃ cL, cL = cntEq AD S.L := ⟨_, rfl⟩
                  rw [← hcL]
                  have HCL := Lib.hid hcL
                  have hjj : ¬ (j : Int) < (nl : Int) := by omega
                  clear hT hcL
                  go_wp2_with fail
                  go_loopw [13, 15] (fun cv jv wr => ∃ j : Nat, j ≤ n2 ∧ jv = .int .i64 (j : Int) ∧ cv = .int .i64 (cntEq (k : Int) (l2.take j) : Nat) ∧ w6 = wr) (fun _ jv _ => n2 - (intOf jv).toNat)
                  case atStart => exact ⟨0, Nat.zero_le _, rfl, rfl, rfl⟩
                  case round =>
                    obtain ⟨q, hqn, rfl, rfl, rfl⟩ := hrel
                    obtain ⟨k0, k1, k2⟩ := cells3' HPR6.out
                    by_cases hq : q < n2
                    · have hql : q < l2.length := by rw [← HN2.out]; exact hq
                      obtain ⟨bh, oh, ea, hch⟩ := IR.at HIV.out HN2.out (by omega)
                      subst ea
                      have eh := hch q hql
                      have hcl := cntEq_le (k : Int) (l2.take q)
                      rw [List.length_take] at hcl
                      have hyes := cntEq_yes (x := (k : Int)) hql
                      have hno := cntEq_no (x := (k : Int)) hql
                      obtain ⟨y, hy⟩ : ∃ y, y = l2[q] := ⟨_, rfl⟩
                      rw [← hy] at eh hyes hno
                      obtain ⟨cc, hcc⟩ : ∃ cc, cc = cntEq (k : Int) (l2.take q) := ⟨_, rfl⟩
                      rw [← hcc] at hcl hyes hno ⊢
                      have hle9 : q + 1 ≤ n2 := by omega
                      have hcc60 : cc ≤ 65536 := by omega
                      clear hch hy hql hcl hcc
                      by_cases he : y = (k : Int)
                      · have hyx : (y == (k : Int)) = true := by simpa using he
                        have z1 := small_wrap cc hcc60
                        have HY := Lib.hid (hyes he)
                        clear hyes hno he hcc60
                        go_wp2_with fail
                        go_roundw
                        case rel =>
                          first
                            | exact ⟨q + 1, hle9, by go_num, by rw [HY.out]; first | rfl | rw [z1], trivial⟩
                            | exact ⟨q + 1, hle9, by go_num, by rw [HY.out]; first | rfl | rw [z1], rfl⟩
                            | ((repeat apply Exists.intro); exact ⟨⟨q + 1, hle9, by go_num, by rw [HY.out]; first | rfl | rw [z1], rfl⟩, rfl⟩)
                        case measure => simp [intOf]; omega
                      · have hyx : (y == (k : Int)) = false := by simpa using he
                        have HY := Lib.hid (hno he)
                        clear hyes hno he hcc60
                        go_wp2_with fail
                        go_roundw
                        case rel =>
                          first
                            | exact ⟨q + 1, hle9, by go_num, by rw [HY.out], trivial⟩
                            | exact ⟨q + 1, hle9, by go_num, by rw [HY.out], rfl⟩
                            | ((repeat apply Exists.intro); exact ⟨⟨q + 1, hle9, by go_num, by rw [HY.out], rfl⟩, rfl⟩)
                        case measure => simp [intOf]; omega
                    · have hT : l2.take q = l2 := List.take_of_length_le (by have := HN2.out; omega)
                      rw [hT]
                      obtain ⟨cR, hcR⟩ : ∃ cR, cR = cntEq (k : Int) l2 := ⟨_, rfl⟩
                      rw [← hcR]
                      have HCR := Lib.hid hcR
                      have hqq : ¬ (q : Int) < (n2 : Int) := by omega
                      have hhs := has_lp HL6.out AD (by rw [HAD.out]; have := HBR.out; omega)
                      have hhv : has S AD = !decide ((k : Int) ∈ l2) := by
                        unfold has
                        rw [HAD.out, HRG.out.base, HRG.out.size, HRG.out.res, show b + (k : Int) - b = (k : Int) by omega]
                        by_cases hm : (k : Int) ∈ l2
                        · simp [hm]
                        · simp [hm]; omega
                      rw [hhv] at hhs
                      clear hT hcR hhv
                      by_cases hm : (k : Int) ∈ l2
                      · have hc1 : cR = 1 := HCR.out.trans (cntEq_one HRR.out.rise hm)
                        have hc0 : cL = 0 := HCL.out.trans (cntEq_none fun hl => by
                          have h1 := (HL6.out.po.ok.inL hl).2.2
                          rw [HRG.out.base, HRG.out.res, HAD.out, show b + (k : Int) - b = (k : Int) by omega] at h1
                          exact h1 hm)
                        have hcn : cntF S (k + 1) = cf := (cntF_no (.inl (by rw [HRG.out.res]; exact hm))).trans HCF.out.symm
                        rw [decide_eq_true hm] at hhs
                        have HHS := Lib.hid hhs
                        have HCN := Lib.hid hcn
                        subst hc1
                        subst hc0
                        clear hhs hm hcn
                        go_wp2_with fail
                        refine HHS.out.mono ?_
                        rintro e w' ⟨rfl, rfl⟩
                        go_wp2_with fail
                        go_roundw
                        case rel =>
                          first
                            | exact ⟨k + 1, hlek, by go_num, by rw [HCN.out], trivial⟩
                            | exact ⟨k + 1, hlek, by go_num, by rw [HCN.out], rfl⟩
                            | ((repeat apply Exists.intro); exact ⟨⟨k + 1, hlek, by go_num, by rw [HCN.out], rfl⟩, rfl⟩)
                        case measure => simp [intOf]; omega
                      · have hc0 : cR = 0 := HCR.out.trans (cntEq_none hm)
                        rw [decide_eq_false hm] at hhs
                        have HHS := Lib.hid hhs
                        subst hc0
                        by_cases hl : AD ∈ S.L
                        · have hc1 : cL = 1 := HCL.out.trans (cntEq_one HL6.out.po.ok.rise hl)
                          have hcn : cntF S (k + 1) = cf := (cntF_no (.inr (by rw [HRG.out.base, ← HAD.out]; exact hl))).trans HCF.out.symm
                          have HCN := Lib.hid hcn
                          subst hc1
                          clear hhs hm hcn hl
                          go_wp2_with fail
                          refine HHS.out.mono ?_
                          rintro e w' ⟨rfl, rfl⟩
                          go_wp2_with fail
                          go_roundw
                          case rel =>
                            first
                              | exact ⟨k + 1, hlek, by go_num, by rw [HCN.out], trivial⟩
                              | exact ⟨k + 1, hlek, by go_num, by rw [HCN.out], rfl⟩
                              | ((repeat apply Exists.intro); exact ⟨⟨k + 1, hlek, by go_num, by rw [HCN.out], rfl⟩, rfl⟩)
                          case measure => simp [intOf]; omega
                        · have hc1 : cL = 0 := HCL.out.trans (cntEq_none hl)
                          have hcn : cntF S (k + 1) = cf + 1 := by
                            rw [HCF.out]
                            exact cntF_yes (by rw [HRG.out.res]; exact hm) (by rw [HRG.out.base, ← HAD.out]; exact hl)
                          have z1 := small_wrap cf (by omega)
                          have HCN := Lib.hid hcn
                          subst hc1
                          have Z1 := Lib.hid z1
                          clear hhs hm hcn hl z1
                          go_wp2_with fail
                          refine HHS.out.mono ?_
                          rintro e w' ⟨rfl, rfl⟩
                          go_wp2_with fail
                          go_roundw
                          case rel =>
                            first
                              | exact ⟨k + 1, hlek, by go_num, by rw [HCN.out]; go_num, trivial⟩
                              | exact ⟨k + 1, hlek, by go_num, by rw [HCN.out]; go_num, rfl⟩
                              | ((repeat apply Exists.intro); exact ⟨⟨k + 1, hlek, by go_num, by rw [HCN.out]; go_num, rfl⟩, rfl⟩)
                          case measure => simp [intOf]; omega
            · have hkk : k = Z := by omega
              have hfr := free_lp HL6.out
              have hfe := free_eq HL6.out.po.ok
              have hcs : cntF S k = (freeL S).length := by rw [hkk, ← HRG.out.size]; exact cntF_all S
              rw [hcs]
              obtain ⟨fL, hfL⟩ : ∃ fL, fL = (freeL S).length := ⟨_, rfl⟩
              have hpar := HPAR.out
              rw [← hfL] at hfe hpar ⊢
              rw [← hfe] at hfr
              have HFR := Lib.hid hfr
              have y1 : wrap64 ((fL : Int) + (nl : Int)) = ((fL + nl : Nat) : Int) := sum_wrap _ _ (by omega) (by omega)
              obtain ⟨s1, hs1⟩ : ∃ s1, s1 = fL + nl := ⟨_, rfl⟩
              rw [← hs1] at y1
              have y2 : wrap64 ((s1 : Int) + (n2 : Int)) = (Z : Int) := by rw [wrap64_in (by omega) (by omega)]; omega
              have hff : ((fL : Int) == (fL : Int)) = true := by simp
              have hzz : ((Z : Int) == (Z : Int)) = true := by simp
              have HLAST : Hid (Below W.heap.size W w6) := HBU.out.trans (Below.mono HL6.out.low HBU.out.size)
              have hkz : ¬ (k : Int) < (Z : Int) := by omega
              clear hfr hfe hcs hpar hs1 hfL hkk
              go_wp2_with fail
              refine HFR.out.mono ?_
              rintro e w' ⟨rfl, rfl⟩
              go_wp2
              go_ret
              exact ⟨rfl, HLAST.out⟩

theorem own : ownKnob Tryd.prog.godebug = none := by kernel_rfl
theorem laidOut : laidOutB Tryd.prog = true := by kernel_rfl
theorem door_met (os : Os) (args : Array Value) : laidMetH Tryd.prog Rows.poolPartsRow.laid ((World.doorLaid Tryd.prog 400 os).forCall (fun _ _ => 0) ⟨#[], args, []⟩).memory :=
  laidMetH_of_parts3 (fuel := 8) (laidMet_of_run' 8 (by kernel_rfl) (by kernel_rfl)) (by kernel_rfl) (by kernel_rfl)
set_option maxRecDepth 100000 in
theorem lifted (os : Os) (started : os.Started) (H : Type) (enc : TypeId × Value → H) :
    ReturnsInHanded {} Tryd.checked os 5 .any (fun w args => (Rows.poolPartsSpec.pre enc Tryd.prog Tryd.f5 [] false w args ∧ laidMetH Tryd.prog Rows.poolPartsRow.laid w) ∧ sizedMet enc Tryd.prog Tryd.f5 (OpenSpec.ofChange Rows.poolPartsSpec) false w args) (Rows.poolPartsSpec.post enc Tryd.prog Tryd.f5 false true false false) := by
  refine returnsInHanded_of_change_and (C := Tryd.checked) (X := fun w _ => laidMetH Tryd.prog Rows.poolPartsRow.laid w) (fun _ _ _ hh h => h.of_heap hh) own started (by kernel_rfl) Tryd.func5
    (ChangeSpec.witness_shaped (enc := enc) (C := Tryd.checked) (os := os) (X := fun w _ => laidMetH Tryd.prog Rows.poolPartsRow.laid w) false (World.doorLaid Tryd.prog 400 os) #[.agg #[.int .i64 0, .int .i64 0, .slice none 0 0], .slice none 0 0] 8 rfl (World.shaped_of_RefB (by kernel_rfl) (by kernel_rfl)) (by kernel_rfl) (by kernel_rfl) (by kernel_rfl) (door_met os _)) ?_
  intro W base args ds gs before hval0 hW _ _ hL _
  have hval : ∀ (j : Nat) t v, Tryd.f5.params[j]? = some t → args[j]? = some v → Value.okWide Tryd.prog W .any base t v := hval0
  have hW' := hW
  obtain ⟨p, q, hA0, hV, rfl, hfz, hnd⟩ := hW
  have hA : DataW.TrodAll enc Tryd.prog W 0 (fun _ => true) true Tryd.f5.params.toList args.toList ds p := hA0
  rw [Tryd.params5] at hA hval
  obtain ⟨v0, vs0, d0, ds0, p0, q0, hargs, rfl, rfl, h0, r0⟩ := trodAll_cons hA
  obtain ⟨v1, vs1, d1, ds1, p1, q1, rfl, rfl, rfl, h1, r1⟩ := trodAll_cons r0
  obtain ⟨rfl, rfl, rfl⟩ := trodAll_nil r1
  obtain rfl : args = #[v0, v1] := by cases args; simp_all
  obtain ⟨rfl, rfl⟩ := trodVars_none hV
  have k0 := h0
  have lt0 : ∀ x ∈ p0, x.block < W.heap.size := by obtain ⟨m, hm⟩ := k0; exact DataW.trod_lt m _ _ _ hm
  obtain ⟨x0, y0, a0, n0, c0, l0, rfl, wx0, wy0, hn0, b0⟩ := open_range Tryd.underlying24 ⟨rfl, rfl, rfl⟩ Tryd.underlying3 Tryd.underlying3 Tryd.underlying22 Tryd.underlying3 ⟨by kernel_rfl, by kernel_rfl, by kernel_rfl, by kernel_rfl, by kernel_rfl⟩ (hval 0 24 v0 rfl rfl) h0
  have k1 := h1
  have lt1 : ∀ x ∈ p1, x.block < W.heap.size := by obtain ⟨m, hm⟩ := k1; exact DataW.trod_lt m _ _ _ hm
  obtain ⟨a1, n1, c1, qs1, rfl, b1⟩ := open_pops Tryd.underlying25 Tryd.underlying38 ⟨rfl, rfl, rfl⟩ Tryd.underlying5 Tryd.underlying3 Tryd.underlying4 ⟨by kernel_rfl, by kernel_rfl, by kernel_rfl, by kernel_rfl⟩ (hval 1 25 v1 rfl rfl) h1
  clear hA0 hval0
  refine (walk W (of_laid hL) x0 y0 a0 n0 c0 l0 wx0 wy0 hn0 b0 a1 n1 c1 qs1 b1).mono fun e W' ⟨he, bel⟩ => ?_
  subst he
  exact ⟨_, rfl, _, _, _, [], _, [], hW', trodAll_mk1 (shut_bool Tryd.underlying4 _), (trodAll_cons_mk (Below.trod laidOut (by kernel_rfl) (of_decide_eq_true (by kernel_rfl)) k0 bel lt0) (trodAll_cons_mk (Below.trod laidOut (by kernel_rfl) (of_decide_eq_true (by kernel_rfl)) k1 bel lt1) trodAll_mk0)), rfl, bel.frame _, fun h => by cases h⟩
theorem over : Rows.poolPartsRow.holds Tryd.pinned (OpenSpec.ofChange Rows.poolPartsSpec) :=
  OpenClaim.holds_of_wide 5 Tryd.f5 rfl rfl rfl rfl rfl rfl rfl ⟨rfl, rfl, rfl, rfl, rfl⟩ rfl rfl rfl rfl rfl (by kernel_rfl) Tryd.func5 (by kernel_rfl)
    (of_decide_eq_true (by kernel_rfl)) (by unfold Func.isWrapper; first | (rw [if_pos (by decide +kernel)]; kernel_rfl) | (rw [if_neg (by decide +kernel)]; exact ⟨rfl, rfl⟩))
    (fun os started H enc _ => lifted os started H enc)
/-- The statement: the tied card. -/
theorem proved : Rows.PoolPartsCardSaid :=
  Claim7.holds_tied_plain_at .later [] [.data] true (true, "e874124b9b968c9656ea65cff0e58373288b28edbace69890e6b772b92dc920d") false over (fun _ h => by cases h) (by kernel_rfl) (fun _ h => by cases h) poolParts_row_tie rfl ⟨rfl, rfl⟩ (by kernel_rfl) rfl
    (fun f fn hf hfn => by
      obtain rfl : f = 5 := Option.some.inj ((show Tryd.prog.funcNamed "concierge/conciergelaw12.PoolParts" = some 5 by kernel_rfl).symm.trans hf) |>.symm
      obtain rfl : fn = Tryd.f5 := (Option.some.inj (Tryd.func5.symm.trans hfn)).symm
      exact ⟨by kernel_rfl, fun j t ht => by
        rw [Tryd.params5] at ht
        have hm : t ∈ [24, 25] := by simpa using Array.mem_of_getElem? ht
        have hall : ([24, 25].all fun u => !Tryd.prog.wantsStandIn u) = true := by kernel_rfl
        exact (show Tryd.prog.wantsStandIn t = false by simpa using List.all_eq_true.1 hall t hm)⟩)
    (by kernel_rfl)
end Go.Proofs.YtoemghinolekgaaDoor.poolParts
