/-
  The document's Take.
-/
import Derived.Test.YtpafcabcnkmadaaIdDe
namespace Go.Proofs.Ytpafcabcnkmadaa.Id
open Go.RowKit
set_option linter.unusedVariables false
set_option linter.unusedSimpArgs false

theorem DGoes.refl {w : World} {g : Nat} {rv uv ev : Value} {S : Al} (h : DQ w g rv uv ev S) : DGoes g rv uv ev w S w := ⟨rv, uv, ev, h, Tr.refl _ _, fun k hk => .inl hk⟩
theorem DGoes.more {w w1 w2 : World} {g : Nat} {rv uv ev rv1 uv1 ev1 : Value} {S : Al} (ht : Tr [g] w w1) (hb : ∀ k ∈ Bd rv1 uv1 ev1, k ∈ Bd rv uv ev ∨ w.heap.size ≤ k) (h : DGoes g rv1 uv1 ev1 w1 S w2) : DGoes g rv uv ev w S w2 := by
  obtain ⟨r, u, e, h1, h2, h3⟩ := h
  refine ⟨r, u, e, h1, ht.trans h2 (fun k hk => .inl hk), fun k hk => ?_⟩
  rcases h3 k hk with h4 | h4
  · exact hb k h4
  · exact .inr (Nat.le_trans ht.size h4)
section
variable {w w2 wn : World} {g n c : Nat} {A : Option Addr} {rv uv ev : Value} {S : Al}
theorem DQ.put3 {L : List Int} (h : DQ w g rv uv ev S) (hc : Gr w w2) (ho : w2.ownsRow w.heap.size 3 1 (.slice A n c) n (ints L)) (hn : n = L.length)
    (hr : wn.heap[g]? = some (.cells #[.int .i64 S.low, .int .i64 S.high, .int .i64 S.quiet, .slice A n c, uv, ev] 75 (0, 0))) (hy : Only g w2 wn) : DGoes g rv uv ev w { S with row := L } wn := by
  have h2 := h.gr hc
  have hg0 := h.lt
  have ht : Tr [g] w2 wn := Tr.only hy (by simp)
  have hb := own_blk ho
  subst hn
  refine ⟨.slice A L.length c, uv, ev, ⟨⟨hr, ?_, ?_, ?_⟩, fun k hk => ?_⟩, (Tr.gr (K := [g]) hc).trans ht (fun k hk => .inl hk), fun k hk => ?_⟩
  · exact IR.tr (own_rd ho) ht fun k hk h4 => by have := (hb k hk).1; have := List.mem_singleton.1 h4; omega
  · exact IR.tr h2.doc.u ht fun k hk h4 => (h2.ne k (by simp [Bd, hk])).1 (List.mem_singleton.1 h4)
  · exact RR.tr h2.doc.e ht fun k hk h4 => (h2.ne k (by simp [Bd, hk])).1 (List.mem_singleton.1 h4)
  · simp only [Bd, List.mem_append] at hk
    rcases hk with hk | hk
    · have := hb k hk; exact ⟨by omega, Nat.lt_of_lt_of_le this.2 hy.size⟩
    · have := h2.ne k (by simp only [Bd, List.mem_append]; exact .inr hk); exact ⟨this.1, Nat.lt_of_lt_of_le this.2 hy.size⟩
  · simp only [Bd, List.mem_append] at hk ⊢
    rcases hk with hk | hk
    · exact .inr (hb k hk).1
    · exact .inl (.inr hk)
theorem DQ.put4 {L : List Int} (h : DQ w g rv uv ev S) (hc : Gr w w2) (ho : w2.ownsRow w.heap.size 3 1 (.slice A n c) n (ints L)) (hn : n = L.length)
    (hr : wn.heap[g]? = some (.cells #[.int .i64 S.low, .int .i64 S.high, .int .i64 S.quiet, rv, .slice A n c, ev] 75 (0, 0))) (hy : Only g w2 wn) : DGoes g rv uv ev w { S with used := L } wn := by
  have h2 := h.gr hc
  have hg0 := h.lt
  have ht : Tr [g] w2 wn := Tr.only hy (by simp)
  have hb := own_blk ho
  subst hn
  refine ⟨rv, .slice A L.length c, ev, ⟨⟨hr, ?_, ?_, ?_⟩, fun k hk => ?_⟩, (Tr.gr (K := [g]) hc).trans ht (fun k hk => .inl hk), fun k hk => ?_⟩
  · exact IR.tr h2.doc.r ht fun k hk h4 => (h2.ne k (by simp [Bd, hk])).1 (List.mem_singleton.1 h4)
  · exact IR.tr (own_rd ho) ht fun k hk h4 => by have := (hb k hk).1; have := List.mem_singleton.1 h4; omega
  · exact RR.tr h2.doc.e ht fun k hk h4 => (h2.ne k (by simp [Bd, hk])).1 (List.mem_singleton.1 h4)
  · simp only [Bd, List.mem_append] at hk
    rcases hk with hk | hk | hk
    · have := h2.ne k (by simp only [Bd, List.mem_append]; exact .inl hk); exact ⟨this.1, Nat.lt_of_lt_of_le this.2 hy.size⟩
    · have := hb k hk; exact ⟨by omega, Nat.lt_of_lt_of_le this.2 hy.size⟩
    · have := h2.ne k (by simp only [Bd, List.mem_append]; exact .inr (.inr hk)); exact ⟨this.1, Nat.lt_of_lt_of_le this.2 hy.size⟩
  · simp only [Bd, List.mem_append] at hk ⊢
    rcases hk with hk | hk | hk
    · exact .inl (.inl hk)
    · exact .inr (hb k hk).1
    · exact .inl (.inr (.inr hk))
theorem DQ.put5 {L : List (Int × Int)} (h : DQ w g rv uv ev S) (hc : Gr w w2) (ho : w2.ownsRow w.heap.size 54 2 (.slice A n c) n (flatR L)) (hn : n = L.length)
    (hr : wn.heap[g]? = some (.cells #[.int .i64 S.low, .int .i64 S.high, .int .i64 S.quiet, rv, uv, .slice A n c] 75 (0, 0))) (hy : Only g w2 wn) : DGoes g rv uv ev w { S with rest := L } wn := by
  have h2 := h.gr hc
  have hg0 := h.lt
  have ht : Tr [g] w2 wn := Tr.only hy (by simp)
  have hb := own_blk ho
  subst hn
  refine ⟨rv, uv, .slice A L.length c, ⟨⟨hr, ?_, ?_, ?_⟩, fun k hk => ?_⟩, (Tr.gr (K := [g]) hc).trans ht (fun k hk => .inl hk), fun k hk => ?_⟩
  · exact IR.tr h2.doc.r ht fun k hk h4 => (h2.ne k (by simp [Bd, hk])).1 (List.mem_singleton.1 h4)
  · exact IR.tr h2.doc.u ht fun k hk h4 => (h2.ne k (by simp [Bd, hk])).1 (List.mem_singleton.1 h4)
  · exact RR.tr (own_rd ho) ht fun k hk h4 => by have := (hb k hk).1; have := List.mem_singleton.1 h4; omega
  · simp only [Bd, List.mem_append] at hk
    rcases hk with hk | hk | hk
    · have := h2.ne k (by simp only [Bd, List.mem_append]; exact .inl hk); exact ⟨this.1, Nat.lt_of_lt_of_le this.2 hy.size⟩
    · have := h2.ne k (by simp only [Bd, List.mem_append]; exact .inr (.inl hk)); exact ⟨this.1, Nat.lt_of_lt_of_le this.2 hy.size⟩
    · have := hb k hk; exact ⟨by omega, Nat.lt_of_lt_of_le this.2 hy.size⟩
  · simp only [Bd, List.mem_append] at hk ⊢
    rcases hk with hk | hk | hk
    · exact .inl (.inl hk)
    · exact .inl (.inr (.inl hk))
    · exact .inr (hb k hk).1
end
theorem rouse_lens (S : Al) (t : Int) : (rouse S t).row.length + (rouse S t).rest.length = S.row.length + S.rest.length := by
  have h := (filter_perm (ready t) S.rest).length_eq
  rw [List.length_append] at h
  show (S.row ++ (S.rest.filter (ready t)).map (·.1)).length + (S.rest.filter fun p => !ready t p).length = _
  rw [List.length_append, List.length_map]
  omega
set_option maxRecDepth 20000 in
set_option maxHeartbeats 8000000 in
theorem dtake_any (g : Nat) (t : Int) {rv uv ev : Value} {S : Al} (w : World) (h : DQ w g rv uv ev S) (hlen : S.row.length + S.rest.length ≤ 65534) (hlu : S.used.length ≤ 65534) :
    Calls Try.prog 24 #[.pointer (some ⟨g, 0, none⟩), .int .i64 t] w fun e w' => e = .returned (.tuple #[.int .i64 (take S t).2.1, .int .i64 (take S t).2.2]) ∧ DGoes g rv uv ev w (take S t).1 w' := by
  obtain ⟨i0, hi0, hz0, hz1, hz2⟩ := info_parts infoI
  have T := dtick_any t w
  by_cases ht : okT t
  · rw [decide_eq_true ht] at T
    have HT := Lib.hid T
    have HR := Lib.hid (drouse_any g t w h hlen)
    obtain ⟨R, hR⟩ : ∃ R, R = rouse S t := ⟨_, rfl⟩
    have hRu : R.used = S.used := by rw [hR]; rfl
    have hRl := rouse_lens S t
    rw [← hR] at HR hRl
    obtain ⟨T2, hT2⟩ : ∃ T2, T2 = take S t := ⟨_, rfl⟩
    have hT3 := hT2
    unfold take at hT3
    rw [if_pos ht, ← hR] at hT3
    rw [← hT2]
    clear T h hR hT2 ht
    go_enter Try.func24, Try.ntmps24
    go_wp2_with fail
    refine HT.out.mono ?_
    rintro e w' ⟨rfl, rfl⟩
    go_wp2_with fail
    refine HR.out.mono ?_
    rintro e w1 ⟨rfl, rv1, uv1, ev1, hq, htr, hbl⟩
    clear HR HT
    have HQ := Lib.hid hq
    have HTR := Lib.hid htr
    have HBL := Lib.hid hbl
    obtain ⟨k0, k1, k2, k3, k4, k5⟩ := cells6 hq.doc.row
    obtain ⟨ra, rc, erv, hrc1, hrc2⟩ := hq.doc.r.shape
    cases hrow : R.row with
    | nil =>
      rw [hrow] at hT3
      have hT4 : T2 = (R, 0, 111) := hT3
      subst hT4
      rw [erv, hrow] at k3
      clear hq htr hbl erv hrc1 hrc2 hT3 hRu hRl hrow
      go_wp2_with fail
      go_ret2
      exact ⟨rfl, DGoes.more HTR.out HBL.out (DGoes.refl HQ.out)⟩
    | cons x r =>
      have hT4 : T2 = ({ R with row := r, used := S.used ++ [x] }, x, 0) := by rw [hT3, hrow]
      subst hT4
      have hr65 : r.length + 1 ≤ 65534 := by rw [hrow] at hRl; simp only [List.length_cons] at hRl; omega
      obtain ⟨M, hM⟩ : ∃ M, M = r.length := ⟨_, rfl⟩
      have hml : R.row.length = M + 1 := by rw [hrow, hM]; rfl
      have hrd := hq.doc.r
      rw [erv] at hrd
      obtain ⟨b, o, eab, hcel⟩ := IR.at hrd rfl (by omega)
      subst eab
      have c0 := hcel 0 (by omega)
      have hx0 : R.row[0]'(by omega) = x := by simp [hrow]
      rw [hx0, Nat.add_zero] at c0
      unfold IR at hrd
      rw [hml] at hrd
      rw [erv, hml] at k3
      obtain ⟨ao', hsl, hsr⟩ := slice_from Try.underlying41 hi0 hz1 hrd .i64 1 1 rfl (by omega)
      have hb1 : Below w1.heap.size w1 (w1.alloc (.cells #[] 3)) := (Below.refl _ _).alloc (Nat.le_refl _) _
      have HB1 := Lib.hid hb1
      have kk3 := cell_gr hb1 k3
      have hm0 : (((M : Nat) : Int) + 1 == 0) = false := by rw [beq_eq_false_iff_ne]; omega
      have HSR := Lib.hid (Rd.below hsr hb1)
      have HOW : Hid ((w1.alloc (.cells #[] 3)).ownsRow w1.heap.size 3 1 (.slice (some ⟨w1.heap.size, 0, none⟩) 0 0) 0 []) := own_new w1 [] 3 0 1 rfl (Nat.zero_le _)
      have HONE : Hid (∀ u ∈ (ints R.row).drop (1 * 1), u.oneCell' = true) := fun u hu => ints_cell _ u (List.mem_of_mem_drop hu)
      have HBY : Hid ((0 + (M + 1 - 1)) * 8 ≤ 140737488355328) := by show _ ≤ _; omega
      have HM := Lib.hid hM
      have HRU := Lib.hid hRu
      have HROW := Lib.hid hrow
      clear hq htr hbl hT3 hRu hRl hrow hrd hsr hb1 hM hcel hx0 hml
      go_wp2_with (refine wpList_append_gr _ rfl (.tmp 26) (.tmp 31) 41 rfl w1.heap.size 3 i0 _ 1 8 Try.underlying41 hi0 hz0 hz1 hz2 rfl (by decide) _ _ _ rfl HOW.out _ _ _ rfl HSR.out ?o1 HBY.out (by decide) HB1.out.size ?_)
      case o1 => exact HONE.out
      intro v' w5 ho hg
      have hb5 : Gr w1 w5 := Below.trans HB1.out (grown_below HOW.out HB1.out.size hg)
      obtain ⟨A5, C5, e5, _, _⟩ := (own_rd ho).shape
      subst e5
      have HO5 : Hid (w5.ownsRow w1.heap.size 3 1 (.slice A5 M C5) M (ints r)) := by
        show World.ownsRow _ _ _ _ _ _ _
        rw [HROW.out] at ho
        simpa [ints] using ho
      have HB5 := Lib.hid hb5
      clear ho hg hb5 k0 k1 k2 k3 k4 k5 kk3 HOW HSR HB1 HONE
      obtain ⟨k0, k1, k2, k3, k4, k5⟩ := cells6 (HQ.out.gr HB5.out).doc.row
      go_wp2_with (refine wpList_store_dI rfl (.tmp 34) (.tmp 32) rfl g 3 _ _ _ rfl rfl _ _ _ _ _ _ (HQ.out.gr HB5.out).doc.row (by decide) ?_)
      intro w6 h6 ho6
      have HG6 := Lib.hid (DQ.put3 HQ.out HB5.out HO5.out HM.out h6 ho6)
      clear h6 ho6 HO5 HB5 k0 k1 k2 k3 k4 k5 erv
      obtain ⟨rv2, uv2, ev2, hq2, htr2, hbl2⟩ := HG6.out
      have HQ2 := Lib.hid hq2
      have HTR2 := Lib.hid htr2
      have HBL2 := Lib.hid hbl2
      obtain ⟨ua, uc, euv, huc1, huc2⟩ := hq2.doc.u.shape
      obtain ⟨U, hU⟩ : ∃ U, U = S.used.length := ⟨_, rfl⟩
      have hul : R.used.length = U := by rw [HRU.out, hU]
      have hud := hq2.doc.u
      obtain ⟨k0, k1, k2, k3, k4, k5⟩ := cells6 hq2.doc.row
      rw [euv, hul] at k4
      unfold IR at hud
      rw [euv, hul] at hud
      have hb1 : Below w6.heap.size w6 (w6.alloc (.cells #[] 3)) := (Below.refl _ _).alloc (Nat.le_refl _) _
      have HB1 := Lib.hid hb1
      have kk4 := cell_gr hb1 k4
      have HSR := Lib.hid (Rd.below hud hb1)
      have HOW : Hid ((w6.alloc (.cells #[] 3)).ownsRow w6.heap.size 3 1 (.slice (some ⟨w6.heap.size, 0, none⟩) 0 0) 0 []) := own_new w6 [] 3 0 1 rfl (Nat.zero_le _)
      have HONE : Hid (∀ u ∈ ints R.used, u.oneCell' = true) := ints_cell _
      have HBY : Hid ((0 + U) * 8 ≤ 140737488355328) := by show _ ≤ _; omega
      have HBY2 : Hid ((U + 1) * 8 ≤ 140737488355328) := by show _ ≤ _; omega
      have HUL := Lib.hid hul
      clear hq2 htr2 hbl2 hud hb1 hul euv hU HG6
      go_wp2_with (refine wpList_append_gr _ rfl (.tmp 36) (.tmp 40) 41 rfl w6.heap.size 3 i0 _ 1 8 Try.underlying41 hi0 hz0 hz1 hz2 rfl (by decide) _ _ _ rfl HOW.out _ _ _ rfl HSR.out HONE.out HBY.out (by decide) HB1.out.size ?_)
      intro v' w7 ho hg
      have hb7 : Gr w6 w7 := Below.trans HB1.out (grown_below HOW.out HB1.out.size hg)
      have hb8 : Below w7.heap.size w7 (w7.alloc (.cells #[.int .i64 x] 3)) := (Below.refl _ _).alloc (Nat.le_refl _) _
      obtain ⟨A7, C7, e7, _, _⟩ := (own_rd ho).shape
      subst e7
      have HB7 := Lib.hid hb7
      have HB8 := Lib.hid (Gr.trans hb7 hb8)
      have HO7 := Lib.hid ho
      have HO8 := Lib.hid (ownsRow_below ho hb8)
      have HX8 : Hid (Rd (w7.alloc (.cells #[.int .i64 x] 3)) 1 (.slice (some ⟨w7.heap.size, 0, none⟩) 1 1) 1 [.int .i64 x]) := rd_new w7 [.int .i64 x] 3 1 1 rfl (by decide)
      clear ho hg hb7 hb8 HOW HSR HB1 HONE k0 k1 k2 k3 k4 k5 kk4
      go_wp2_with (refine wpList_append_gr _ rfl (.tmp 41) (.tmp 43) 41 rfl w6.heap.size 3 i0 _ 1 8 Try.underlying41 hi0 hz0 hz1 hz2 rfl (by decide) _ _ _ rfl HO8.out _ 1 _ rfl HX8.out (one_int _) HBY2.out (by decide) HB8.out.size ?_)
      intro v' w9 ho hg
      have hb9 : Gr w6 w9 := Below.trans HB8.out (grown_below HO8.out HB8.out.size hg)
      obtain ⟨A9, C9, e9, _, _⟩ := (own_rd ho).shape
      subst e9
      have HO9 : Hid (w9.ownsRow w6.heap.size 3 1 (.slice A9 (U + 1) C9) (U + 1) (ints (R.used ++ [x]))) := by
        show World.ownsRow _ _ _ _ _ _ _
        simpa [ints] using ho
      have HB9 := Lib.hid hb9
      clear ho hg hb9 HO7 HO8 HX8 HB7 HB8
      go_wp2_with (refine wpList_store_dI rfl (.tmp 46) (.tmp 44) rfl g 4 _ _ _ rfl rfl _ _ _ _ _ _ (HQ2.out.gr HB9.out).doc.row (by decide) ?_)
      intro wa ha hoa
      have HGA := Lib.hid (DQ.put4 HQ2.out HB9.out HO9.out (by rw [List.length_append, HUL.out]; rfl) ha hoa)
      clear ha hoa HO9 HB9
      go_wp2
      go_ret2
      refine ⟨rfl, DGoes.more HTR.out HBL.out (DGoes.more HTR2.out HBL2.out ?_)⟩
      have := HGA.out
      rw [HRU.out] at this
      exact this
  · rw [decide_eq_false ht] at T
    have HT := Lib.hid T
    have HQ := Lib.hid h
    have e : take S t = (S, 0, 1) := by unfold take; rw [if_neg ht]
    rw [e]
    clear h T ht e
    go_enter Try.func24, Try.ntmps24
    go_wp2_with fail
    refine HT.out.mono ?_
    rintro e w' ⟨rfl, rfl⟩
    go_wp2
    go_ret2
    exact ⟨rfl, DGoes.refl HQ.out⟩
end Go.Proofs.Ytpafcabcnkmadaa.Id
