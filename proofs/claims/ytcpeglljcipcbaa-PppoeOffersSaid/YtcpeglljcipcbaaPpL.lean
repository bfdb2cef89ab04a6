/-
  The document's Offer.
-/
import Derived.Test.YtcpeglljcipcbaaPpK
namespace Go.Proofs.Ytcpeglljcipcbaa
open Go.RowKit
set_option linter.unusedVariables false
set_option linter.unusedSimpArgs false

theorem offer_small {y : ByteArray} {ss : List ByteArray} {d : Dm} {kl : List UInt8} (hs : DShort d) (hy : y.size ≤ 1600) (hkl : kl.length ≤ 1600) (hss : ∀ s ∈ ss, s.size ≤ 1600) : ∀ x ∈ offerL y ss d.plain kl, x.2.length ≤ 1600 := by
  intro x hx
  unfold offerL at hx
  rcases List.mem_append.1 hx with hx | hx
  · refine short_again hs _ (fun x hx => ?_) x hx
    rcases List.mem_append.1 hx with hx | hx
    · simp only [List.mem_cons, List.not_mem_nil, or_false] at hx
      rcases hx with rfl | rfl
      · show (bl y).length ≤ 1600; rw [bl_length]; exact hy
      · show (bl d.v).length ≤ 1600; rw [bl_length]; exact hs.v
    · obtain ⟨s, hs, rfl⟩ := List.mem_map.1 hx
      show (bl s).length ≤ 1600
      rw [bl_length]
      exact hss s (List.mem_filter.1 hs).1
  · rw [List.mem_singleton.1 hx]; exact hkl
theorem AQ.two {w0 w : World} {B : Nat} {T U : Int} {A A' : Option Addr} {L C L' C' : Nat} {l l' : List UInt8} (hv : LV w0 w (.slice A L C) l) (hu : LV w0 w (.slice A' L' C') l') (hb : Below w0.heap.size w0 w) (h1 : w0.heap.size ≤ B) (h2 : B ≤ w.heap.size) :
    AQ w0 B (w.alloc (.cells #[.int .i64 T, .slice A L C, .int .i64 U, .slice A' L' C'] 61)) (.slice (some ⟨w.heap.size, 0, none⟩) 2 2) [⟨T, .slice A L C, l⟩, ⟨U, .slice A' L' C', l'⟩] := by
  have ha : Below w.heap.size w (w.alloc (.cells #[.int .i64 T, .slice A L C, .int .i64 U, .slice A' L' C'] 61)) := (Below.refl _ _).alloc (Nat.le_refl _) _
  refine ⟨ownsRow_mono (own_new w [.int .i64 T, .slice A L C, .int .i64 U, .slice A' L' C'] 61 2 2 rfl (by decide)) h2, fun t ht => ?_, hb.trans (ha.mono hb.size), h1, Nat.le_trans h2 ha.size⟩
  simp only [List.mem_cons, List.not_mem_nil, or_false] at ht
  rcases ht with rfl | rfl
  · exact hv.add (Adds.of_below ha)
  · exact hu.add (Adds.of_below ha)

set_option maxHeartbeats 4000000 in
theorem roffer_any (y : ByteArray) (sa : Option Addr) (sn sc : Nat) (ss : List ByteArray) (d : Dm) (ka : Option Addr) (kn kc : Nat) (kl : List UInt8) (w : World) (hss : StrR w sa sn sc ss) (hd : DOk w d) (hs : DShort d) (hk : Bs w (.slice ka kn kc) kl) (hkl : kl.length ≤ 1600) (hy : y.size ≤ 1600) :
    Calls Try.prog 19 #[.string y, .slice sa sn sc, .agg #[.int .i64 d.c, .int .i64 d.s, .string d.v, .slice d.ua d.un d.uc, .slice d.ra d.rn d.rc, .bool d.hu, .bool d.hr, .slice d.ka d.kn d.kc], .slice ka kn kc] w (PRes (offerP y ss d.plain kl) w) := by
  obtain ⟨i0, hi, hz0, hz1, hz2⟩ := info_parts infoT
  have BA : Below w.heap.size w ((w.alloc (.cells #[.int .i64 d.c, .int .i64 d.s, .string d.v, .slice d.ua d.un d.uc, .slice d.ra d.rn d.rc, .bool d.hu, .bool d.hr, .slice d.ka d.kn d.kc] 36)).alloc (.cells #[.int .i64 0, .int .i64 0, .slice none 0 0] 24)) := ((Below.refl _ _).alloc (Nat.le_refl _) _).alloc (by simp) _
  have HBA := Lib.hid BA
  have HGD : Hid (((w.alloc (.cells #[.int .i64 d.c, .int .i64 d.s, .string d.v, .slice d.ua d.un d.uc, .slice d.ra d.rn d.rc, .bool d.hu, .bool d.hr, .slice d.ka d.kn d.kc] 36)).alloc (.cells #[.int .i64 0, .int .i64 0, .slice none 0 0] 24)).heap[w.heap.size]? = some (.cells #[.int .i64 d.c, .int .i64 d.s, .string d.v, .slice d.ua d.un d.uc, .slice d.ra d.rn d.rc, .bool d.hu, .bool d.hr, .slice d.ka d.kn d.kc] 36 (0, 0))) := heap2_0' _ _ _
  have HG0 : Hid (((w.alloc (.cells #[.int .i64 d.c, .int .i64 d.s, .string d.v, .slice d.ua d.un d.uc, .slice d.ra d.rn d.rc, .bool d.hu, .bool d.hr, .slice d.ka d.kn d.kc] 36)).alloc (.cells #[.int .i64 0, .int .i64 0, .slice none 0 0] 24)).heap[w.heap.size + 1]? = some (.cells #[.int .i64 0, .int .i64 0, .slice none 0 0] 24 (0, 0))) := heap2_1' _ _ _
  have HD := Lib.hid hd
  have HS := Lib.hid hs
  have HSS := Lib.hid hss
  have HK := Lib.hid hk
  have hsz : ((w.alloc (.cells #[.int .i64 d.c, .int .i64 d.s, .string d.v, .slice d.ua d.un d.uc, .slice d.ra d.rn d.rc, .bool d.hu, .bool d.hr, .slice d.ka d.kn d.kc] 36)).alloc (.cells #[.int .i64 0, .int .i64 0, .slice none 0 0] 24)).heap.size = w.heap.size + 2 := by simp
  have HSZ := Lib.hid hsz
  have hn70 := hss.few
  have hln := hss.len
  have HSM := Lib.hid (offer_small hs hy hkl hss.small)
  clear hd hs BA hsz hss hk
  by_cases hc : d.c = 9
  · have HP : Hid (offerP y ss d.plain kl = packP 7 0 (offerL y ss d.plain kl)) := if_pos hc
    have hcb : (d.c == 9) = true := by rw [hc]; rfl
    have hvs : d.v.size ≤ 1600 := HS.out.v
    obtain ⟨c1, W1, hrun1, hlv1, hb1⟩ := string_lv Try.underlying9 Try.underlying22 Try.underlying5 rfl y (by unfold maxLen; omega) w ((w.alloc (.cells #[.int .i64 d.c, .int .i64 d.s, .string d.v, .slice d.ua d.un d.uc, .slice d.ra d.rn d.rc, .bool d.hu, .bool d.hr, .slice d.ka d.kn d.kc] 36)).alloc (.cells #[.int .i64 0, .int .i64 0, .slice none 0 0] 24))
    have HB1 := Lib.hid (HBA.out.trans (hb1.mono HBA.out.size))
    have HGD1 := Lib.hid (heap_below HGD.out hb1)
    have hz1' : w.heap.size + 2 ≤ W1.heap.size := by rw [← HSZ.out]; exact hb1.size
    obtain ⟨c2, W2, hrun2, hlv2, hb2⟩ := string_lv Try.underlying9 Try.underlying22 Try.underlying5 rfl d.v (by unfold maxLen; omega) w W1
    have hz2' : w.heap.size + 2 ≤ W2.heap.size := Nat.le_trans hz1' hb2.size
    rw [HSZ.out] at hlv1 hrun1
    have HB2 := Lib.hid (HB1.out.trans (hb2.mono HB1.out.size))
    have ha : Below W2.heap.size W2 (W2.alloc (.cells #[.int .i64 258, .slice (some ⟨w.heap.size + 2, 0, none⟩) y.size c1, .int .i64 257, .slice (some ⟨W1.heap.size, 0, none⟩) d.v.size c2] 61)) := (Below.refl _ _).alloc (Nat.le_refl _) _
    have HQ3 := Lib.hid (AQ.two (T := 258) (U := 257) (hlv1.add (Adds.of_below hb2)) hlv2 HB2.out (Nat.le_add_right _ 2) hz2')
    have HW3 : Hid (Below (w.heap.size + 2) ((w.alloc (.cells #[.int .i64 d.c, .int .i64 d.s, .string d.v, .slice d.ua d.un d.uc, .slice d.ra d.rn d.rc, .bool d.hu, .bool d.hr, .slice d.ka d.kn d.kc] 36)).alloc (.cells #[.int .i64 0, .int .i64 0, .slice none 0 0] 24)) (W2.alloc (.cells #[.int .i64 258, .slice (some ⟨w.heap.size + 2, 0, none⟩) y.size c1, .int .i64 257, .slice (some ⟨W1.heap.size, 0, none⟩) d.v.size c2] 61))) := by
      have h1 := hb1.trans (hb2.mono hb1.size)
      have h2 := h1.trans (ha.mono h1.size)
      rw [HSZ.out] at h2
      exact h2
    obtain ⟨k0, k1, k2, k3, k4, k5, k6, k7⟩ := cells8 HGD1.out
    have HHD : Hid (∀ w', Below (w.heap.size + 2) ((w.alloc (.cells #[.int .i64 d.c, .int .i64 d.s, .string d.v, .slice d.ua d.un d.uc, .slice d.ra d.rn d.rc, .bool d.hu, .bool d.hr, .slice d.ka d.kn d.kc] 36)).alloc (.cells #[.int .i64 0, .int .i64 0, .slice none 0 0] 24)) w' → w'.heap[w.heap.size]? = some (.cells #[.int .i64 d.c, .int .i64 d.s, .string d.v, .slice d.ua d.un d.uc, .slice d.ra d.rn d.rc, .bool d.hu, .bool d.hr, .slice d.ka d.kn d.kc] 36 (0, 0)) ∧ w'.heap[w.heap.size + 1]? = some (.cells #[.int .i64 0, .int .i64 0, .slice none 0 0] 24 (0, 0))) := fun w' h => by
      rw [← HSZ.out] at h
      exact ⟨heap_below HGD.out h, heap_below HG0.out h⟩
    have HHW : Hid (∀ w', Below (w.heap.size + 2) ((w.alloc (.cells #[.int .i64 d.c, .int .i64 d.s, .string d.v, .slice d.ua d.un d.uc, .slice d.ra d.rn d.rc, .bool d.hu, .bool d.hr, .slice d.ka d.kn d.kc] 36)).alloc (.cells #[.int .i64 0, .int .i64 0, .slice none 0 0] 24)) w' → Below w.heap.size w w') := fun w' h => HBA.out.trans (h.mono (Nat.le_add_right _ 2))
    clear hc hlv1 hlv2 hb1 hb2 ha hz1' hz2'
    go_enter Try.func19, Try.ntmps19
    go_wp2
    generalize ((w.alloc (.cells #[.int .i64 d.c, .int .i64 d.s, .string d.v, .slice d.ua d.un d.uc, .slice d.ra d.rn d.rc, .bool d.hu, .bool d.hr, .slice d.ka d.kn d.kc] 36)).alloc (.cells #[.int .i64 0, .int .i64 0, .slice none 0 0] 24)) = wS at HW3 HHD HHW HSZ HGD HG0 HBA
    clear HGD HG0 HBA k0 k1 k2 k3 k4 k5 k6 k7 hrun1 hrun2
    have hcc : (d.c != 9) = false := by unfold bne; rw [hcb]; rfl
    rw [hcc]
    clear hcc hcb
    go_loopw [10, 11] (fun tv iv wr => ∃ (k : Nat) (ts : List Tg), k ≤ sn ∧ iv = .int .i64 k ∧ plain ts = [((258 : Int), bl y), (257, bl d.v)] ++ svcL d.v (ss.take k) ∧ AQ w (w.heap.size + 2) wr tv ts ∧ Below (w.heap.size + 2) wS wr) (fun _ iv _ => sn - (intOf iv).toNat)
    case atStart => exact ⟨0, _, Nat.zero_le _, rfl, rfl, HQ3.out, HW3.out⟩
    case round =>
      clear HQ3 HW3 HB1 HB2 HGD1
      obtain ⟨k, ts, hk, rfl, hpl, hq, hbw⟩ := hrel
      have HPL := Lib.hid hpl
      have HQ := Lib.hid hq
      have HBW := Lib.hid hbw
      have HB := Lib.hid (HHW.out _ hbw)
      have htl : ts.length ≤ k + 2 := by
        have := congrArg List.length hpl
        rw [plain_length, List.length_append] at this
        have h2 := svcL_len d.v (ss.take k)
        rw [List.length_take] at h2
        simp at this
        omega
      clear hpl hq hbw
      by_cases hlt : k < sn
      · obtain ⟨b, o, rfl, hbl, hcc⟩ := HSS.out.cells (by omega)
        have hck := hcc k (by omega)
        obtain ⟨s, hs⟩ : ∃ s, s = ss[k] := ⟨_, rfl⟩
        rw [← hs] at hck
        have HSE := Lib.hid hs
        have HSI : Hid (s.size ≤ 1600) := by show _ ≤ _; rw [hs]; exact HSS.out.small _ (List.getElem_mem _)
        have HC0 := Lib.hid (cell_gr HB.out hck)
        have HC1 := Lib.hid (cells8 (HHD.out _ HBW.out).1).2.2.1
        have hkn : (k : Int) < (sn : Int) := by omega
        clear hs hcc hck
        go_wp2_with fail
        refine wp_region_G 7 Gr (by kernel_rfl) ?_
        -- 0: slot 30
        refine wpG_take preGr (i := 0) (v := ?_) (by kernel_rfl) (some 30) (by kernel_rfl) rfl (by kernel_rfl) (by kernel_rfl) (by kernel_rfl) (fun _ _ _ h => h) (by rfl) (fun w' hw' => ?_) rfl ?_
        rotate_left
        · have g0 := cell_gr ((Gr.drew wr).trans hw') HC0.out
          have g1 := cell_gr ((Gr.drew wr).trans hw') HC1.out
          go_simp
          with_reducible rfl
        simp only [Act.put, List.setIfInBounds_toArray, List.set_cons_zero, List.set_cons_succ]
        -- 1: slot 31
        refine wpG_take preGr (i := 1) (v := ?_) (by kernel_rfl) (some 31) (by kernel_rfl) rfl (by kernel_rfl) (by kernel_rfl) (by kernel_rfl) (fun _ _ _ h => h) (by rfl) (fun w' hw' => ?_) rfl ?_
        rotate_left
        · have g0 := cell_gr ((Gr.drew wr).trans hw') HC0.out
          have g1 := cell_gr ((Gr.drew wr).trans hw') HC1.out
          go_simp
          with_reducible rfl
        simp only [Act.put, List.setIfInBounds_toArray, List.set_cons_zero, List.set_cons_succ]
        -- 2: slot 32
        refine wpG_take preGr (i := 2) (v := ?_) (by kernel_rfl) (some 32) (by kernel_rfl) rfl (by kernel_rfl) (by kernel_rfl) (by kernel_rfl) (fun _ _ _ h => h) (by rfl) (fun w' hw' => ?_) rfl ?_
        rotate_left
        · have g0 := cell_gr ((Gr.drew wr).trans hw') HC0.out
          have g1 := cell_gr ((Gr.drew wr).trans hw') HC1.out
          go_simp
          with_reducible rfl
        simp only [Act.put, List.setIfInBounds_toArray, List.set_cons_zero, List.set_cons_succ]
        -- 3: slot 33
        refine wpG_take preGr (i := 3) (v := ?_) (by kernel_rfl) (some 33) (by kernel_rfl) rfl (by kernel_rfl) (by kernel_rfl) (by kernel_rfl) (fun _ _ _ h => h) (by rfl) (fun w' hw' => ?_) rfl ?_
        rotate_left
        · have g0 := cell_gr ((Gr.drew wr).trans hw') HC0.out
          have g1 := cell_gr ((Gr.drew wr).trans hw') HC1.out
          go_simp
          with_reducible rfl
        simp only [Act.put, List.setIfInBounds_toArray, List.set_cons_zero, List.set_cons_succ]
        -- 4: slot 34
        refine wpG_take preGr (i := 4) (v := ?_) (by kernel_rfl) (some 34) (by kernel_rfl) rfl (by kernel_rfl) (by kernel_rfl) (by kernel_rfl) (fun _ _ _ h => h) (by rfl) (fun w' hw' => ?_) rfl ?_
        rotate_left
        · have g0 := cell_gr ((Gr.drew wr).trans hw') HC0.out
          have g1 := cell_gr ((Gr.drew wr).trans hw') HC1.out
          go_simp
          with_reducible rfl
        simp only [Act.put, List.setIfInBounds_toArray, List.set_cons_zero, List.set_cons_succ]
        -- 5: slot 35
        refine wpG_take preGr (i := 5) (v := ?_) (by kernel_rfl) (some 35) (by kernel_rfl) rfl (by kernel_rfl) (by kernel_rfl) (by kernel_rfl) (fun _ _ _ h => h) (by rfl) (fun w' hw' => ?_) rfl ?_
        rotate_left
        · have g0 := cell_gr ((Gr.drew wr).trans hw') HC0.out
          have g1 := cell_gr ((Gr.drew wr).trans hw') HC1.out
          go_simp
          with_reducible rfl
        simp only [Act.put, List.setIfInBounds_toArray, List.set_cons_zero, List.set_cons_succ]
        -- 6: slot 36
        refine wpG_take preGr (i := 6) (v := ?_) (by kernel_rfl) (some 36) (by kernel_rfl) rfl (by kernel_rfl) (by kernel_rfl) (by kernel_rfl) (fun _ _ _ h => h) (by rfl) (fun w' hw' => ?_) rfl ?_
        rotate_left
        · have g0 := cell_gr ((Gr.drew wr).trans hw') HC0.out
          have g1 := cell_gr ((Gr.drew wr).trans hw') HC1.out
          go_simp
          with_reducible rfl
        simp only [Act.put, List.setIfInBounds_toArray, List.set_cons_zero, List.set_cons_succ]
        refine wpG_done (by kernel_rfl) ?_ _
        have HQD := Lib.hid (HQ.out.below (Gr.drew wr))
        have HBD : Hid (Below (w.heap.size + 2) wS wr.drew) := HBW.out.drew
        have q0 := cell_gr (Gr.drew wr) HC0.out
        have q1 := cell_gr (Gr.drew wr) HC1.out
        generalize wr.drew = wq at HQD HBD q0 q1 ⊢
        by_cases hsv : s = d.v
        · have HN : Hid (svcL d.v (ss.take (k + 1)) = svcL d.v (ss.take k)) := by
            show _ = _
            rw [svcL_snoc _ _ _ (by omega), if_pos (by rw [← HSE.out]; exact hsv), List.append_nil]
          have hee : (s.toList == d.v.toList) = true := by rw [hsv]; exact beq_self_eq_true _
          rw [hee]
          clear hsv hee
          have HPN := HPL.out
          rw [← HN.out] at HPN
          have HPN2 := Lib.hid HPN
          clear HPN
          go_wp2
          go_roundw
          case rel =>
            first | exact ⟨k + 1, ts, by omega, by go_num, HPN2.out, HQD.out, HBD.out⟩ | ((repeat apply Exists.intro); exact ⟨⟨k + 1, ts, by omega, by go_num, HPN2.out, HQD.out, HBD.out⟩, rfl⟩)
          case measure => simp [intOf]; omega
        · have HN : Hid (svcL d.v (ss.take (k + 1)) = svcL d.v (ss.take k) ++ [(257, bl s)]) := by
            show _ = _
            rw [svcL_snoc _ _ _ (by omega), if_neg (by rw [← HSE.out]; exact hsv), ← HSE.out]
          have hne : (s.toList == d.v.toList) = false := text_ne hsv
          rw [hne]
          clear hne
          obtain ⟨c5, W5, hrun5, hlv5, hb5⟩ := string_lv Try.underlying9 Try.underlying22 Try.underlying5 rfl s (by have := HSI.out; unfold maxLen; omega) w wq
          have ha5 : Below W5.heap.size W5 (W5.alloc (.cells #[.int .i64 257, .slice (some ⟨wq.heap.size, 0, none⟩) s.size c5] 61)) := (Below.refl _ _).alloc (Nat.le_refl _) _
          have hq5 := HQD.out.below hb5
          have HV5 := Lib.hid hlv5
          have HQ6 := Lib.hid (hq5.below ha5)
          have HA6 := Lib.hid (Adds.of_below ha5)
          have hw5 := HBD.out.trans (hb5.mono HQD.out.top)
          have HW6 := Lib.hid (hw5.trans (ha5.mono hq5.top))
          have HR6 : Hid (Rd (W5.alloc (.cells #[.int .i64 257, .slice (some ⟨wq.heap.size, 0, none⟩) s.size c5] 61)) 2 (.slice (some ⟨W5.heap.size, 0, none⟩) 1 1) 1 [.int .i64 257, .slice (some ⟨wq.heap.size, 0, none⟩) s.size c5]) := rd_new _ [.int .i64 257, .slice (some ⟨wq.heap.size, 0, none⟩) s.size c5] 61 1 2 rfl (by decide)
          have HO6 := Lib.hid HQ6.out.own
          have HT6 := Lib.hid HQ6.out.top
          obtain ⟨at0, ct0, evt, _, _⟩ := HQ6.out.tr.shape
          subst evt
          clear hlv5 hb5 ha5 hq5 hw5 hsv
          go_wp2_with (at_builtin; refine wpList_append_gr _ rfl _ _ 62 rfl (w.heap.size + 2) 61 i0 _ 2 32 Try.underlying62 hi hz0 hz1 hz2 rfl (by decide) _ _ _ rfl HO6.out _ 1 [.int .i64 257, .slice (some ⟨wq.heap.size, 0, none⟩) s.size c5] rfl HR6.out (one_tag 257 rfl) (by omega) (by decide) HT6.out ?_)
          intro v7 w7 ho7 hg7
          have HQ7 := Lib.hid (AQ.app (us := [⟨257, .slice (some ⟨wq.heap.size, 0, none⟩) s.size c5, bl s⟩]) HQ6.out (by intro t ht; rw [List.mem_singleton.1 ht]; exact HV5.out.add HA6.out) ho7 hg7)
          have HW7 := Lib.hid (HW6.out.trans (grown_below HO6.out HT6.out hg7))
          have HP7 : Hid (plain (ts ++ [⟨257, .slice (some ⟨wq.heap.size, 0, none⟩) s.size c5, bl s⟩]) = [((258 : Int), bl y), (257, bl d.v)] ++ svcL d.v (ss.take (k + 1))) := by
            show _ = _
            rw [plain_append, HPL.out, HN.out, List.append_assoc]
            rfl
          clear ho7 hg7 q0 q1 hrun5
          go_wp2
          go_roundw
          case rel =>
            first | exact ⟨k + 1, _, by omega, by go_num, HP7.out, HQ7.out, HW7.out⟩ | ((repeat apply Exists.intro); exact ⟨⟨k + 1, _, by omega, by go_num, HP7.out, HQ7.out, HW7.out⟩, rfl⟩)
          case measure => simp [intOf]; omega
      · obtain rfl : sn = k := by omega
        have HWT : Hid (ss.take sn = ss) := by show _ = _; rw [← hln, List.take_length]
        have HPS : Hid (plain ts = [((258 : Int), bl y), (257, bl d.v)] ++ svcL d.v ss) := by
          have := HPL.out
          rwa [HWT.out] at this
        obtain ⟨k0, k1, k2, k3, k4, k5, k6, k7⟩ := cells8 (HHD.out _ HBW.out).1
        have AG := Lib.hid (ragain_any w wr d HD.out HB.out)
        obtain ⟨at0, ct0, evt, _, _⟩ := HQ.out.tr.shape
        subst evt
        go_wp2_with fail
        refine AG.out.mono ?_
        rintro e w3 ⟨a3, n3, c3, ts3, rfl, hl3, hp3, hq3, hb3⟩
        have HQ3 := Lib.hid (HQ.out.below hb3)
        have HW3 := Lib.hid (HBW.out.trans (hb3.mono HQ.out.top))
        have HO3 := Lib.hid HQ3.out.own
        have HT3 := Lib.hid HQ3.out.top
        have HR3 : Hid (Rd w3 2 (.slice a3 n3 c3) n3 (flat ts3)) := by
          have := own_rd hq3.own
          rwa [hl3] at this
        have HV3 := Lib.hid hq3.cells
        have HX3 := Lib.hid hq3.vals
        have HL3 := Lib.hid hl3
        have HP3 := Lib.hid hp3
        have hn3 : n3 ≤ 2 := by rw [← hl3, ← plain_length, hp3]; exact againL_len _
        clear hl3 hp3 hq3 hb3 AG k0 k1 k2 k3 k4 k5 k6 k7
        go_wp2_with (at_builtin; refine wpList_append_gr _ rfl _ _ 62 rfl (w.heap.size + 2) 61 i0 _ 2 32 Try.underlying62 hi hz0 hz1 hz2 rfl (by decide) _ _ _ rfl HO3.out _ n3 (flat ts3) rfl HR3.out HV3.out (by omega) (by decide) HT3.out ?_)
        intro v4 w4 ho4 hg4
        have HW4 := Lib.hid (HW3.out.trans (grown_below HO3.out HT3.out hg4))
        rw [← HL3.out] at ho4
        have hq4 := AQ.app HQ3.out HX3.out ho4 hg4
        obtain ⟨a4, c4, ev, _, _⟩ := hq4.tr.shape
        obtain ⟨ts4, hts4⟩ : ∃ t, t = ts ++ ts3 := ⟨_, rfl⟩
        rw [← hts4] at hq4 ev
        subst ev
        have HP4 : Hid (plain ts4 = ([((258 : Int), bl y), (257, bl d.v)] ++ svcL d.v ss) ++ againL d.plain) := by show _ = _; rw [hts4, plain_append, HPS.out, HP3.out]
        have ht4 : ts4.length ≤ 100 := by rw [hts4, List.length_append, HL3.out]; omega
        have ha4 : Below w4.heap.size w4 (w4.alloc (.cells #[.int .i64 260, .slice ka kn kc] 61)) := (Below.refl _ _).alloc (Nat.le_refl _) _
        have HQ5 := Lib.hid (hq4.below ha4)
        have HW5 := Lib.hid (HW4.out.trans (ha4.mono hq4.top))
        have HR5 : Hid (Rd (w4.alloc (.cells #[.int .i64 260, .slice ka kn kc] 61)) 2 (.slice (some ⟨w4.heap.size, 0, none⟩) 1 1) 1 [.int .i64 260, .slice ka kn kc]) := rd_new _ [.int .i64 260, .slice ka kn kc] 61 1 2 rfl (by decide)
        have HO5 := Lib.hid HQ5.out.own
        have HT5 := Lib.hid HQ5.out.top
        clear ho4 hg4 hq4 hts4 ha4
        go_wp2_with (at_builtin; refine wpList_append_gr _ rfl _ _ 62 rfl (w.heap.size + 2) 61 i0 _ 2 32 Try.underlying62 hi hz0 hz1 hz2 rfl (by decide) _ _ _ rfl HO5.out _ 1 [.int .i64 260, .slice ka kn kc] rfl HR5.out (one_tag 260 rfl) (by omega) (by decide) HT5.out ?_)
        intro v6 w6 ho6 hg6
        have HW6 := Lib.hid (HW5.out.trans (grown_below HO5.out HT5.out hg6))
        have hq6 := AQ.app (us := [⟨260, .slice ka kn kc, kl⟩]) HQ5.out (by intro t ht; rw [List.mem_singleton.1 ht]; exact .inl HK.out) ho6 hg6
        have hp6 : plain (ts4 ++ [⟨260, .slice ka kn kc, kl⟩]) = offerL y ss d.plain kl := by rw [plain_append, HP4.out]; rfl
        have hr6 := hq6.tr
        obtain ⟨a6, c6, ev, _, _⟩ := hr6.shape
        obtain ⟨n6, hn6⟩ : ∃ n, n = ts4.length + 1 := ⟨_, rfl⟩
        have el : (ts4 ++ [(⟨260, .slice ka kn kc, kl⟩ : Tg)]).length = n6 := by rw [hn6]; simp
        rw [el] at ev hr6
        subst ev
        have PK := rpacket_any 7 0 a6 _ c6 _ w6 hr6 (by omega) (by
          intro x hx
          have h1 : (x.typ, x.l) ∈ offerL y ss d.plain kl := by rw [← hp6]; exact List.mem_map.2 ⟨x, hx, rfl⟩
          have := HSM.out _ h1
          simp only at this
          omega)
        rw [hp6, ← HP.out] at PK
        obtain ⟨r, hr⟩ : ∃ r, r = offerP y ss d.plain kl := ⟨_, rfl⟩
        rw [← hr] at PK
        have AN := Lib.hid PK
        have HRR := Lib.hid hr
        have HZ6 : Hid (w.heap.size + 2 ≤ w6.heap.size) := hq6.top
        have HG6 := Lib.hid (HHD.out _ HW6.out).2
        have HB6 := Lib.hid (HHW.out _ HW6.out)
        clear PK hp6 hr6 hq6 ho6 hg6 el hn6 hr
        go_wp2_with fail
        refine AN.out.mono ?_
        rintro e w8 ⟨A8, L8, C8, rfl, hown8, hb8⟩
        have HB8 := Lib.hid (HB6.out.trans (hb8.mono HB6.out.size))
        have HG8 := Lib.hid (heap_below HG6.out hb8)
        have HO8 := Lib.hid hown8
        have HLT : Hid (w.heap.size + 1 < w6.heap.size) := by have := HZ6.out; show _ < _; omega
        clear hown8 hb8 AN
        obtain ⟨q0, q1, q2⟩ := cells3 HG8.out
        have f0 := frozen_of_row _ _ 0 _ _ HG8.out
        have f1 := frozen_of_row _ _ 1 _ _ HG8.out
        have f2 := frozen_of_row _ _ 2 _ _ HG8.out
        go_wp2
        refine bodyPost_ret (v := .tuple #[.agg #[.int .i64 r.1.c, .int .i64 r.1.s, .slice A8 L8 C8], .int .i64 r.2]) (results_cell_tmp_row (P := Try.prog) (fn := Try.f19) rfl _ _ (w.heap.size + 1) 24 _ (0, 0) _ rfl (set3 HG8.out _ _ _) Try.underlying24 rfl (by kernel_rfl)) rfl ?_
        rw [← HRR.out]
        exact PRes.kept HO8.out HB8.out (by omega) HLT.out HB6.out.size
  · have HP : Hid (offerP y ss d.plain kl = (PP.zero, 61)) := if_neg hc
    go_enter Try.func19, Try.ntmps19
    go_wp2
    refine bodyPost_ret (v := .tuple #[.agg #[.int .i64 0, .int .i64 0, .slice none 0 0], .int .i64 61]) (results_cell_tmp_row (P := Try.prog) (fn := Try.f19) rfl _ _ (w.heap.size + 1) 24 _ (0, 0) _ rfl HG0.out Try.underlying24 rfl (by kernel_rfl)) rfl ?_
    exact PRes.none HP.out HBA.out
end Go.Proofs.Ytcpeglljcipcbaa
