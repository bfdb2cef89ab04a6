/-
  The document's packet, Terminate, Session, Refuse.
-/
import Derived.Test.YtcpeglljcipcbaaPpI
namespace Go.Proofs.Ytcpeglljcipcbaa
open Go.RowKit
set_option linter.unusedVariables false
set_option linter.unusedSimpArgs false

theorem flat_one {ts : List Tg} (h : ∀ t ∈ ts, t.val.oneCell' = true) : ∀ u ∈ flat ts, u.oneCell' = true := by
  intro u hu
  obtain ⟨t, ht, hu⟩ := List.mem_flatMap.1 hu
  simp only [List.mem_cons, List.not_mem_nil, or_false] at hu
  rcases hu with rfl | rfl
  · rfl
  · exact h t ht
theorem AQ.cells {w0 w : World} {B : Nat} {v : Value} {ts : List Tg} (h : AQ w0 B w v ts) : ∀ u ∈ flat ts, u.oneCell' = true := flat_one fun t ht => (h.tr.vals t ht).oneCell

set_option maxHeartbeats 2000000 in
theorem rpacket_any (cc s : Int) (a : Option Addr) (n c : Nat) (ts : List Tg) (w : World) (htr : TR w (.slice a n c) n ts) (hn : n ≤ 1000) (hm : ∀ x ∈ ts, x.l.length ≤ 1000000) :
    Calls Try.prog 35 #[.int .i64 cc, .int .i64 s, .slice a n c] w (PRes (packP cc s (plain ts)) w) := by
  have BA : Below w.heap.size w (w.alloc (.cells #[.int .i64 0, .int .i64 0, .slice none 0 0] 24)) := (Below.refl _ _).alloc (Nat.le_refl _) _
  have HBA := Lib.hid BA
  have HG0 : Hid ((w.alloc (.cells #[.int .i64 0, .int .i64 0, .slice none 0 0] 24)).heap[w.heap.size]? = some (.cells #[.int .i64 0, .int .i64 0, .slice none 0 0] 24 (0, 0))) := heap_alloc_last _ _
  have EN := Lib.hid (rencode_any a n c ts _ (htr.below BA) hn hm)
  have HSZ : Hid (w.heap.size + 1 ≤ (w.alloc (.cells #[.int .i64 0, .int .i64 0, .slice none 0 0] 24)).heap.size) := Nat.le_of_eq (World.size_alloc _ _).symm
  clear BA htr hm
  go_enter Try.func35, Try.ntmps35
  go_wp2_with fail
  refine EN.out.mono ?_
  rintro e w3 ⟨v3, rfl, hown3, hb3⟩
  obtain ⟨ls, hls⟩ : ∃ ls, ls = plain ts := ⟨_, rfl⟩
  rw [← hls] at hown3
  rw [← hls]
  have HB3 := Lib.hid (HBA.out.trans (hb3.mono HBA.out.size))
  have HG3 := Lib.hid (heap_below HG0.out hb3)
  have HO3 := Lib.hid (OwnB.mono hown3 HSZ.out)
  obtain ⟨A3, L3, C3, ev, _, _, _⟩ := hown3.bs.sl
  subst ev
  obtain ⟨q0, q1, q2⟩ := cells3 HG3.out
  have f0 := frozen_of_row _ _ 0 _ _ HG3.out
  have f1 := frozen_of_row _ _ 1 _ _ HG3.out
  have f2 := frozen_of_row _ _ 2 _ _ HG3.out
  have HLS := Lib.hid hls
  clear hown3 hb3 EN hls
  by_cases hE : encE ls = 0
  · have HP := Lib.hid (packP_ok (c := cc) (s := s) hE)
    have HOW : Hid (OwnB w3 (w.heap.size + 1) 5 (.slice A3 L3 C3) (wireT ls)) := by
      have := HO3.out
      rw [encB_yes hE] at this
      exact this
    rw [hE]
    go_wp2
    refine bodyPost_ret (v := .tuple #[.agg #[.int .i64 cc, .int .i64 s, .slice A3 L3 C3], .int .i64 0]) (results_cell_tmp_row (P := Try.prog) (fn := Try.f35) rfl _ _ w.heap.size 24 _ (0, 0) _ rfl (set3 HG3.out _ _ _) Try.underlying24 rfl (by kernel_rfl)) rfl ?_
    exact PRes.some (by rw [← HLS.out]; exact HP.out) (OwnB.mono (base := w.heap.size + 1) (own_set3 HOW.out (Nat.lt_succ_self _) _ _ _) (Nat.le_succ _)) (((HB3.out.setCell (Nat.le_refl _) _).setCell (Nat.le_refl _) _).setCell (Nat.le_refl _) _)
  · have HP := Lib.hid (packP_no (c := cc) (s := s) hE)
    generalize encE ls = E at hE HP
    have hE' : (E == 0) = false := by rw [beq_eq_false_iff_ne]; exact hE
    go_wp2
    refine bodyPost_ret (v := .tuple #[.agg #[.int .i64 0, .int .i64 0, .slice none 0 0], .int .i64 E]) (results_cell_tmp_row (P := Try.prog) (fn := Try.f35) rfl _ _ w.heap.size 24 _ (0, 0) _ rfl (set3 HG3.out _ _ _) Try.underlying24 rfl (by kernel_rfl)) rfl ?_
    exact PRes.none (by rw [← HLS.out]; exact HP.out) (((HB3.out.setCell (Nat.le_refl _) _).setCell (Nat.le_refl _) _).setCell (Nat.le_refl _) _)

set_option maxHeartbeats 1000000 in
theorem rterminate_any (id : Int) (w : World) : Calls Try.prog 25 #[.int .i64 id] w (PRes (termP id) w) := by
  have BA : Below w.heap.size w (w.alloc (.cells #[.int .i64 0, .int .i64 0, .slice none 0 0] 24)) := (Below.refl _ _).alloc (Nat.le_refl _) _
  have HBA := Lib.hid BA
  have HBB : Hid (Below w.heap.size w (w.alloc (.cells #[.int .i64 167, .int .i64 id, .slice none 0 0] 24))) := (Below.refl _ _).alloc (Nat.le_refl _) _
  have HG0 : Hid ((w.alloc (.cells #[.int .i64 0, .int .i64 0, .slice none 0 0] 24)).heap[w.heap.size]? = some (.cells #[.int .i64 0, .int .i64 0, .slice none 0 0] 24 (0, 0))) := heap_alloc_last _ _
  have HG1 : Hid ((w.alloc (.cells #[.int .i64 167, .int .i64 id, .slice none 0 0] 24)).heap[w.heap.size]? = some (.cells #[.int .i64 167, .int .i64 id, .slice none 0 0] 24 (0, 0))) := heap_alloc_last _ _
  clear BA
  by_cases h1 : id < 1
  · have HP : Hid (termP id = (PP.zero, 5)) := if_neg (by omega)
    go_enter Try.func25, Try.ntmps25
    go_wp2
    refine bodyPost_ret (v := .tuple #[.agg #[.int .i64 0, .int .i64 0, .slice none 0 0], .int .i64 5]) (results_cell_tmp_row (P := Try.prog) (fn := Try.f25) rfl _ _ w.heap.size 24 _ (0, 0) _ rfl HG0.out Try.underlying24 rfl (by kernel_rfl)) rfl ?_
    exact PRes.none HP.out HBA.out
  by_cases h2 : 65534 < id
  · have HP : Hid (termP id = (PP.zero, 5)) := if_neg (by omega)
    go_enter Try.func25, Try.ntmps25
    go_wp2
    refine bodyPost_ret (v := .tuple #[.agg #[.int .i64 0, .int .i64 0, .slice none 0 0], .int .i64 5]) (results_cell_tmp_row (P := Try.prog) (fn := Try.f25) rfl _ _ w.heap.size 24 _ (0, 0) _ rfl HG0.out Try.underlying24 rfl (by kernel_rfl)) rfl ?_
    exact PRes.none HP.out HBA.out
  have HP : Hid (termP id = (⟨167, id, []⟩, 0)) := if_pos (by omega)
  go_enter Try.func25, Try.ntmps25
  go_wp2
  refine bodyPost_ret (v := .tuple #[.agg #[.int .i64 167, .int .i64 id, .slice none 0 0], .int .i64 0]) (results_cell_tmp_row (P := Try.prog) (fn := Try.f25) rfl _ _ w.heap.size 24 _ (0, 0) _ rfl HG1.out Try.underlying24 rfl (by kernel_rfl)) rfl ?_
  exact PRes.some HP.out (OwnB.nil _ _ _) HBB.out

theorem short_tags {d : Dm} (h : DShort d) {ts : List Tg} (ls : List PT) (hp : plain ts = ls ++ againL d.plain) (hl : ∀ x ∈ ls, x.2.length ≤ 1600) : ∀ x ∈ ts, x.l.length ≤ 1000000 := by
  intro x hx
  have h1 : (x.typ, x.l) ∈ ls ++ againL d.plain := by rw [← hp]; exact List.mem_map.2 ⟨x, hx, rfl⟩
  have := short_again h ls hl _ h1
  simp only at this
  omega

set_option maxHeartbeats 2000000 in
theorem rsession_any (d : Dm) (id : Int) (w : World) (hd : DOk w d) (hs : DShort d) : Calls Try.prog 21 #[.agg #[.int .i64 d.c, .int .i64 d.s, .string d.v, .slice d.ua d.un d.uc, .slice d.ra d.rn d.rc, .bool d.hu, .bool d.hr, .slice d.ka d.kn d.kc], .int .i64 id] w (PRes (sessP d.plain id) w) := by
  obtain ⟨i0, hi, hz0, hz1, hz2⟩ := info_parts infoT
  have BA : Below w.heap.size w ((w.alloc (.cells #[.int .i64 d.c, .int .i64 d.s, .string d.v, .slice d.ua d.un d.uc, .slice d.ra d.rn d.rc, .bool d.hu, .bool d.hr, .slice d.ka d.kn d.kc] 36)).alloc (.cells #[.int .i64 0, .int .i64 0, .slice none 0 0] 24)) := ((Below.refl _ _).alloc (Nat.le_refl _) _).alloc (by simp) _
  have HBA := Lib.hid BA
  have HGD : Hid (((w.alloc (.cells #[.int .i64 d.c, .int .i64 d.s, .string d.v, .slice d.ua d.un d.uc, .slice d.ra d.rn d.rc, .bool d.hu, .bool d.hr, .slice d.ka d.kn d.kc] 36)).alloc (.cells #[.int .i64 0, .int .i64 0, .slice none 0 0] 24)).heap[w.heap.size]? = some (.cells #[.int .i64 d.c, .int .i64 d.s, .string d.v, .slice d.ua d.un d.uc, .slice d.ra d.rn d.rc, .bool d.hu, .bool d.hr, .slice d.ka d.kn d.kc] 36 (0, 0))) := heap2_0' _ _ _
  have HG0 : Hid (((w.alloc (.cells #[.int .i64 d.c, .int .i64 d.s, .string d.v, .slice d.ua d.un d.uc, .slice d.ra d.rn d.rc, .bool d.hu, .bool d.hr, .slice d.ka d.kn d.kc] 36)).alloc (.cells #[.int .i64 0, .int .i64 0, .slice none 0 0] 24)).heap[w.heap.size + 1]? = some (.cells #[.int .i64 0, .int .i64 0, .slice none 0 0] 24 (0, 0))) := heap2_1' _ _ _
  have HD := Lib.hid hd
  have HS := Lib.hid hs
  have hsz : ((w.alloc (.cells #[.int .i64 d.c, .int .i64 d.s, .string d.v, .slice d.ua d.un d.uc, .slice d.ra d.rn d.rc, .bool d.hu, .bool d.hr, .slice d.ka d.kn d.kc] 36)).alloc (.cells #[.int .i64 0, .int .i64 0, .slice none 0 0] 24)).heap.size = w.heap.size + 2 := by simp
  have HSZ := Lib.hid hsz
  clear hd hs BA hsz
  by_cases hc : d.c = 25
  · have HC := Lib.hid hc
    have hcb : (d.c == 25) = true := by rw [hc]; rfl
    clear hc
    by_cases h1 : id < 1
    · have HP : Hid (sessP d.plain id = (PP.zero, 5)) := by
        show _ = _
        unfold sessP
        rw [if_pos (by exact HC.out), if_neg (by omega)]
      go_enter Try.func21, Try.ntmps21
      go_wp2
      refine bodyPost_ret (v := .tuple #[.agg #[.int .i64 0, .int .i64 0, .slice none 0 0], .int .i64 5]) (results_cell_tmp_row (P := Try.prog) (fn := Try.f21) rfl _ _ (w.heap.size + 1) 24 _ (0, 0) _ rfl HG0.out Try.underlying24 rfl (by kernel_rfl)) rfl ?_
      exact PRes.none HP.out HBA.out
    by_cases h2 : 65534 < id
    · have HP : Hid (sessP d.plain id = (PP.zero, 5)) := by
        show _ = _
        unfold sessP
        rw [if_pos (by exact HC.out), if_neg (by omega)]
      go_enter Try.func21, Try.ntmps21
      go_wp2
      refine bodyPost_ret (v := .tuple #[.agg #[.int .i64 0, .int .i64 0, .slice none 0 0], .int .i64 5]) (results_cell_tmp_row (P := Try.prog) (fn := Try.f21) rfl _ _ (w.heap.size + 1) 24 _ (0, 0) _ rfl HG0.out Try.underlying24 rfl (by kernel_rfl)) rfl ?_
      exact PRes.none HP.out HBA.out
    have HP : Hid (sessP d.plain id = packP 101 id ([((257 : Int), bl d.v)] ++ againL d.plain)) := by
      show _ = _
      unfold sessP
      rw [if_pos (by exact HC.out), if_pos (by omega)]
      rfl
    obtain ⟨c1, W1, hrun, hlv, hb⟩ := string_lv Try.underlying9 Try.underlying22 Try.underlying5 rfl d.v (by have := HS.out.v; unfold maxLen; omega) w ((w.alloc (.cells #[.int .i64 d.c, .int .i64 d.s, .string d.v, .slice d.ua d.un d.uc, .slice d.ra d.rn d.rc, .bool d.hu, .bool d.hr, .slice d.ka d.kn d.kc] 36)).alloc (.cells #[.int .i64 0, .int .i64 0, .slice none 0 0] 24))
    have HB1 := Lib.hid (HBA.out.trans (hb.mono HBA.out.size))
    have HGD1 := Lib.hid (heap_below HGD.out hb)
    have HG1 := Lib.hid (heap_below HG0.out hb)
    have hz1' : w.heap.size + 2 ≤ W1.heap.size := by rw [← HSZ.out]; exact hb.size
    have ha : Below W1.heap.size W1 (W1.alloc (.cells #[.int .i64 257, .slice (some ⟨w.heap.size + 2, 0, none⟩) d.v.size c1] 61)) := (Below.refl _ _).alloc (Nat.le_refl _) _
    rw [HSZ.out] at hlv hrun
    have HQ2 := Lib.hid (AQ.one (T := 257) hlv HB1.out (Nat.le_add_right _ 2) hz1')
    have HB2 := Lib.hid (HB1.out.trans (ha.mono HB1.out.size))
    have HGD2 := Lib.hid (heap_below HGD1.out ha)
    have HG2 := Lib.hid (heap_below HG1.out ha)
    have AG := Lib.hid (ragain_any w _ d HD.out HB2.out)
    obtain ⟨k0, k1, k2, k3, k4, k5, k6, k7⟩ := cells8 HGD1.out
    obtain ⟨g0, g1, g2, g3, g4, g5, g6, g7⟩ := cells8 HGD2.out
    clear hlv hb ha hz1'
    go_enter Try.func21, Try.ntmps21
    go_wp2_with fail
    refine AG.out.mono ?_
    rintro e w3 ⟨a3, n3, c3, ts3, rfl, hl3, hp3, hq3, hb3⟩
    have HQ3 := Lib.hid (HQ2.out.below hb3)
    have HB3 := Lib.hid (HB2.out.trans (hb3.mono HB2.out.size))
    have HG3 := Lib.hid (heap_below HG2.out hb3)
    have HO3 := Lib.hid HQ3.out.own
    have HT3 := Lib.hid HQ3.out.top
    have HR3 : Hid (Rd w3 2 (.slice a3 n3 c3) n3 (flat ts3)) := by
      have := own_rd hq3.own
      rwa [hl3] at this
    have HV3 := Lib.hid hq3.cells
    have HX3 := Lib.hid hq3.vals
    have HL3 := Lib.hid hl3
    have HP3 := Lib.hid hp3
    have hn3 : n3 ≤ 2 := by rw [← hl3, ← plain_length, hp3]; exact againL_len _
    clear hl3 hp3 hq3 hb3 AG k0 k1 k2 k3 k4 k5 k6 k7 g0 g1 g2 g3 g4 g5 g6 g7 hrun
    go_wp2_with (at_builtin; refine wpList_append_gr _ rfl _ _ 62 rfl (w.heap.size + 2) 61 i0 _ 2 32 Try.underlying62 hi hz0 hz1 hz2 rfl (by decide) _ _ _ rfl HO3.out _ n3 (flat ts3) rfl HR3.out HV3.out (by simp; omega) (by decide) HT3.out ?_)
    intro v4 w4 ho4 hg4
    have HB4 := Lib.hid (HB3.out.trans ((grown_below HO3.out HT3.out hg4).mono (Nat.le_add_right _ 2)))
    have HG4 := Lib.hid (grown_heap HO3.out hg4 HG3.out (by decide))
    rw [← HL3.out] at ho4
    have hq4 := AQ.app HQ3.out HX3.out ho4 hg4
    have hr4 := hq4.tr
    have hp4 : plain ([⟨257, .slice (some ⟨w.heap.size + 2, 0, none⟩) d.v.size c1, bl d.v⟩] ++ ts3) = [((257 : Int), bl d.v)] ++ againL d.plain := by rw [plain_append, HP3.out]; rfl
    obtain ⟨a4, c4, ev, _, _⟩ := hr4.shape
    obtain ⟨n4, hn4⟩ : ∃ n4, n4 = n3 + 1 := ⟨_, rfl⟩
    have el : ([⟨257, .slice (some ⟨w.heap.size + 2, 0, none⟩) d.v.size c1, bl d.v⟩] ++ ts3 : List Tg).length = n4 := by rw [hn4, ← HL3.out]; simp; try omega
    rw [el] at ev hr4
    subst ev
    have PK := rpacket_any 101 id a4 _ c4 _ w4 hr4 (by omega) (short_tags HS.out _ hp4 (by intro x hx; rw [List.mem_singleton.1 hx]; show (bl d.v).length ≤ 1600; rw [bl_length]; exact HS.out.v))
    rw [hp4, ← HP.out] at PK
    have hz4 : w.heap.size + 2 ≤ w4.heap.size := hq4.top
    have HZ4 := Lib.hid hz4
    have AN := Lib.hid PK
    clear PK hp4 hr4 hq4 ho4 hg4 hz4 el hn4
    obtain ⟨r, hr⟩ : ∃ r, r = sessP d.plain id := ⟨_, rfl⟩
    rw [← hr] at AN
    have HRR := Lib.hid hr
    clear hr
    go_wp2_with fail
    refine AN.out.mono ?_
    rintro e w5 ⟨A5, L5, C5, rfl, hown5, hb5⟩
    have HB5 := Lib.hid (HB4.out.trans (hb5.mono HB4.out.size))
    have HG5 := Lib.hid (heap_below HG4.out hb5)
    have HO5 := Lib.hid hown5
    have HLT : Hid (w.heap.size + 1 < w4.heap.size) := by have := HZ4.out; show _ < _; omega
    clear hown5 hb5 AN
    obtain ⟨q0, q1, q2⟩ := cells3 HG5.out
    have f0 := frozen_of_row _ _ 0 _ _ HG5.out
    have f1 := frozen_of_row _ _ 1 _ _ HG5.out
    have f2 := frozen_of_row _ _ 2 _ _ HG5.out
    go_wp2
    refine bodyPost_ret (v := .tuple #[.agg #[.int .i64 r.1.c, .int .i64 r.1.s, .slice A5 L5 C5], .int .i64 r.2]) (results_cell_tmp_row (P := Try.prog) (fn := Try.f21) rfl _ _ (w.heap.size + 1) 24 _ (0, 0) _ rfl (set3 HG5.out _ _ _) Try.underlying24 rfl (by kernel_rfl)) rfl ?_
    rw [← HRR.out]
    exact PRes.kept HO5.out HB5.out (by omega) HLT.out HB4.out.size
  · have HP : Hid (sessP d.plain id = (PP.zero, 61)) := if_neg hc
    go_enter Try.func21, Try.ntmps21
    go_wp2
    refine bodyPost_ret (v := .tuple #[.agg #[.int .i64 0, .int .i64 0, .slice none 0 0], .int .i64 61]) (results_cell_tmp_row (P := Try.prog) (fn := Try.f21) rfl _ _ (w.heap.size + 1) 24 _ (0, 0) _ rfl HG0.out Try.underlying24 rfl (by kernel_rfl)) rfl ?_
    exact PRes.none HP.out HBA.out
end Go.Proofs.Ytcpeglljcipcbaa
