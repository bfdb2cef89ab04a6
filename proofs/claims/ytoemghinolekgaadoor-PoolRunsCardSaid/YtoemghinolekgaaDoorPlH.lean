/-
  slices.Clone, Fork.
-/
import Derived.Test.YtoemghinolekgaaDoorPlF
import Derived.Lib.SliceRun
namespace Go.Proofs.YtoemghinolekgaaDoor.Pl
open Go.RowKit
open Go.Proofs.YtoemghinolekgaaDoor.Id (Tr Tr.refl Tr.gr Tr.only blk own_blk IR IR.cells IR.shape)
set_option linter.unusedVariables false
set_option linter.unusedSimpArgs false

theorem pm_made {w w1 w2 : World} {B : Int} {v1 v2 : Value} {fr le : List Nat} (hl : Laid w) (hN : fr.length ≤ 1024 ∧ le.length ≤ 1024) (ok : okW fr ∧ okW le) (h1 : w1.ownsRow w.heap.size 70 1 v1 fr.length (words fr)) (n1 : v1 ≠ .slice none 0 0) (b1 : Below w.heap.size w w1)
    (h2 : w2.ownsRow w1.heap.size 70 1 v2 le.length (words le)) (n2 : v2 ≠ .slice none 0 0) (b2 : Below w1.heap.size w1 w2) :
    PmAt (w2.alloc (.cells #[.int .i64 B, v1, v2] 60)) w2.heap.size B ⟨v1, fr, v2, le⟩ ∧ ∀ k ∈ Fm w2.heap.size ⟨v1, fr, v2, le⟩, w.heap.size ≤ k := by
  have hal : Gr w2 (w2.alloc (.cells #[.int .i64 B, v1, v2] 60)) := (Gr.refl w2).alloc _
  have o1 := own_blk h1
  have o2 := own_blk h2
  have s1 := b1.size
  have s2 := b2.size
  have l0 := hl.1
  refine ⟨⟨((hl.gr b1).gr b2).gr hal, heap_alloc_last _ _, ⟨ownsRow_below (ownsRow_below (ownsRow_mono h1 (by omega)) b2) hal, n1, hN.1, ok.1⟩, ⟨ownsRow_below (ownsRow_mono h2 (by omega)) hal, n2, hN.2, ok.2⟩, fun k hk hk2 => ?_, by omega⟩, fun k hk => ?_⟩
  · have := (o1 k hk).2
    have := (o2 k hk2).1
    omega
  · simp only [Fm, List.mem_cons, List.mem_append] at hk
    rcases hk with rfl | hk | hk
    · omega
    · exact (o1 k hk).1
    · have := (o2 k hk).1; omega
theorem one_words (ws : List Nat) : ∀ u ∈ words ws, u.oneCell' = true := by
  intro u hu
  obtain ⟨x, _, rfl⟩ := List.mem_map.1 hu
  rfl
set_option maxRecDepth 20000 in
theorem clone_any {v : Value} {ws : List Nat} (w : World) (h : WAt w v ws) :
    Calls Tryd.prog 42 #[v] w fun e w' => ∃ v', e = .returned v' ∧ v' ≠ .slice none 0 0 ∧ w'.ownsRow w.heap.size 70 1 v' ws.length (words ws) ∧ Below w.heap.size w w' := by
  obtain ⟨i0, hi, hz0, hz1, hz2⟩ := info_parts infoU
  obtain ⟨b, cap, cur, rfl, h1, h2, h3, h4, h5, h6, h7, h8⟩ := h.at
  have hfew := h.few
  have hb0 : Below w.heap.size w (w.alloc (.cells #[] 70)) := (Below.refl _ _).alloc (Nat.le_refl _) _
  have HSRC : Hid (∀ j u, (words ws)[j]? = some u → (w.alloc (.cells #[] 70)).cell? ((⟨b, 0, none⟩ : Addr).add j) = some u) := by
    intro j u hj
    rw [Addr.add_lit, Nat.zero_add]
    exact own_cell (size := 1) (heap_below h3 hb0) (by rw [Nat.mul_one]; exact h7) hj
  have HOW : Hid ((w.alloc (.cells #[] 70)).ownsRow w.heap.size 70 1 (.slice (some ⟨w.heap.size, 0, none⟩) 0 0) 0 []) := own_new w [] 70 0 1 rfl (Nat.zero_le _)
  have HONE := Lib.hid (one_words ws)
  have HNL : Hid ((words ws).length = ws.length * 1) := by show _ = _; rw [words_length, Nat.mul_one]
  have HBY : Hid ((0 + ws.length) * 8 ≤ 140737488355328) := by show _ ≤ _; omega
  have H63 : Hid (0 + ws.length ≤ maxLen) := by show _ ≤ _; unfold maxLen; omega
  have HLO : Hid (w.heap.size ≤ (w.alloc (.cells #[] 70)).heap.size) := hb0.size
  have HB0 := Lib.hid hb0
  have hq : ∀ w, (binOp .eql 58 (.slice (some ⟨b, 0, none⟩) ws.length cap) (.slice none 0 0)).run Tryd.prog w = .ok (.bool false) w := fun w => Lib.run_eql_slice_nil (P := Tryd.prog) w 58 70 (some ⟨b, 0, none⟩) ws.length cap 0 0 Tryd.underlying58
  clear h h1 h2 h3 h4 h5 h6 h7 h8 hb0 hfew
  go_enter Tryd.func42, Tryd.ntmps42
  go_wp2_with (at_builtin; refine wpList_append_own _ rfl (.tmp 5) (.tmp 6) 58 rfl w.heap.size 70 i0 (.int .u64 0) 1 8 Tryd.underlying58 hi hz0 hz1 hz2 rfl (by decide) _ 0 [] rfl HOW.out ⟨b, 0, none⟩ ws.length cap (words ws) rfl HNL.out HSRC.out HONE.out H63.out HBY.out HLO.out ?_)
  intro v w1 ho hg hnn
  try rw [Nat.zero_add, List.nil_append] at ho
  have hnil : v ≠ .slice none 0 0 := fun e => by simpa using hnn e
  have HO := Lib.hid ho
  have HNN := Lib.hid hnil
  have HB1 : Hid (Below w.heap.size w w1) := HB0.out.grown hg HLO.out (fun k hk => (HOW.out.lt k hk).1)
  clear ho hg hnn hnil
  obtain ⟨bb, cc, curr, ev, _⟩ := own_open HO.out (.inr HNN.out)
  rw [ev] at HO HNN ⊢
  clear ev
  go_wp2
  go_ret
  exact ⟨_, rfl, HNN.out, HO.out, HB1.out⟩
set_option maxRecDepth 20000 in
set_option maxHeartbeats 4000000 in
theorem fork_any (g : Nat) {m : Pm} {S : Po} (w : World) (h : PoAt w g m S) :
    Calls Tryd.prog 21 #[.pointer (some ⟨g, 0, none⟩)] w fun e w' => ∃ g', e = .returned (.pointer (some ⟨g', 0, none⟩)) ∧ ∃ m', PoAt w' g' m' S ∧ (∀ k ∈ Fm g' m', w.heap.size ≤ k) ∧ Below w.heap.size w w' := by
  have HM := Lib.hid (isMade_yes g w h.pm h.ok.r.base.1)
  have HH := Lib.hid h
  obtain ⟨bf, cf, curf, ef, _⟩ := h.pm.fo.at
  obtain ⟨bl, cl, curl, el, _⟩ := h.pm.lo.at
  have hrow := h.pm.row
  rw [ef, el] at hrow
  have HROW := Lib.hid hrow
  have HCF : Hid (∀ w', Gr w w' → Calls Tryd.prog 42 #[.slice (some ⟨bf, 0, none⟩) m.fr.length cf] w' fun e w2 => ∃ v', e = .returned v' ∧ v' ≠ .slice none 0 0 ∧ w2.ownsRow w'.heap.size 70 1 v' m.fr.length (words m.fr) ∧ Below w'.heap.size w' w2) := fun w' hw' => by
    rw [← ef]; exact clone_any w' (HH.out.gr hw').pm.fo
  have HCL : Hid (∀ w', Gr w w' → Calls Tryd.prog 42 #[.slice (some ⟨bl, 0, none⟩) m.le.length cl] w' fun e w2 => ∃ v', e = .returned v' ∧ v' ≠ .slice none 0 0 ∧ w2.ownsRow w'.heap.size 70 1 v' m.le.length (words m.le) ∧ Below w'.heap.size w' w2) := fun w' hw' => by
    rw [← el]; exact clone_any w' (HH.out.gr hw').pm.lo
  obtain ⟨nf, hnf⟩ : ∃ n, n = m.fr.length := ⟨_, rfl⟩
  obtain ⟨nl, hnl⟩ : ∃ n, n = m.le.length := ⟨_, rfl⟩
  have HNF := Lib.hid hnf
  have HNL := Lib.hid hnl
  rw [← hnf] at HROW HCF
  rw [← hnl] at HROW HCL
  obtain ⟨B, hB⟩ : ∃ B, B = S.base := ⟨_, rfl⟩
  have HBB := Lib.hid hB
  rw [← hB] at HROW
  clear h ef el hrow hnf hnl hB
  go_enter Tryd.func21, Tryd.ntmps21
  go_wp2_with fail
  refine HM.out.mono ?_
  rintro e w' ⟨rfl, rfl⟩
  go_upto_region 3 with fail
  have HC : Hid (Below w.heap.size w w.drew) := Gr.drew w
  clear HM
  refine wp_region_G 17 Gr (by kernel_rfl) ?_
  generalize w.drew = wc at HC ⊢
  -- 0: slot 6
  refine wpG_take preGr (i := 0) (v := ?_) (by kernel_rfl) (some 6) (by kernel_rfl) rfl (by kernel_rfl) (by kernel_rfl) (by kernel_rfl) (fun _ _ _ h => h) (by rfl) (fun w' hw' => ?_) rfl ?_
  rotate_left
  · try (have hxx := cells3' (heap_gr (Gr.trans HC.out hw') HROW.out); obtain ⟨k0, k1, k2⟩ := hxx)
    go_simp
    with_reducible rfl
  simp only [Act.put, List.setIfInBounds_toArray, List.set_cons_zero, List.set_cons_succ]
  -- 1: slot 7
  refine wpG_take preGr (i := 1) (v := ?_) (by kernel_rfl) (some 7) (by kernel_rfl) rfl (by kernel_rfl) (by kernel_rfl) (by kernel_rfl) (fun _ _ _ h => h) (by rfl) (fun w' hw' => ?_) rfl ?_
  rotate_left
  · try (have hxx := cells3' (heap_gr (Gr.trans HC.out hw') HROW.out); obtain ⟨k0, k1, k2⟩ := hxx)
    go_simp
    with_reducible rfl
  simp only [Act.put, List.setIfInBounds_toArray, List.set_cons_zero, List.set_cons_succ]
  -- 2: slot 8
  refine wpG_take preGr (i := 2) (v := ?_) (by kernel_rfl) (some 8) (by kernel_rfl) rfl (by kernel_rfl) (by kernel_rfl) (by kernel_rfl) (fun _ _ _ h => h) (by rfl) (fun w' hw' => ?_) rfl ?_
  rotate_left
  · try (have hxx := cells3' (heap_gr (Gr.trans HC.out hw') HROW.out); obtain ⟨k0, k1, k2⟩ := hxx)
    go_simp
    with_reducible rfl
  simp only [Act.put, List.setIfInBounds_toArray, List.set_cons_zero, List.set_cons_succ]
  -- 3: slot 9
  refine wpG_take preGr (i := 3) (v := ?_) (by kernel_rfl) (some 9) (by kernel_rfl) rfl (by kernel_rfl) (by kernel_rfl) (by kernel_rfl) (fun _ _ _ h => h) (by rfl) (fun w' hw' => ?_) rfl ?_
  rotate_left
  · try (have hxx := cells3' (heap_gr (Gr.trans HC.out hw') HROW.out); obtain ⟨k0, k1, k2⟩ := hxx)
    go_simp
    with_reducible rfl
  simp only [Act.put, List.setIfInBounds_toArray, List.set_cons_zero, List.set_cons_succ]
  -- 4: slot 10
  refine wpG_take preGr (i := 4) (v := ?_) (by kernel_rfl) (some 10) (by kernel_rfl) rfl (by kernel_rfl) (by kernel_rfl) (by kernel_rfl) (fun _ _ _ h => h) (by rfl) (fun w' hw' => ?_) rfl ?_
  rotate_left
  · try (have hxx := cells3' (heap_gr (Gr.trans HC.out hw') HROW.out); obtain ⟨k0, k1, k2⟩ := hxx)
    go_simp
    with_reducible rfl
  simp only [Act.put, List.setIfInBounds_toArray, List.set_cons_zero, List.set_cons_succ]
  -- 5: slot 11
  refine wpG_take preGr (i := 5) (v := ?_) (by kernel_rfl) (some 11) (by kernel_rfl) rfl (by kernel_rfl) (by kernel_rfl) (by kernel_rfl) (fun _ _ _ h => h) (by rfl) (fun w' hw' => ?_) rfl ?_
  rotate_left
  · try (have hxx := cells3' (heap_gr (Gr.trans HC.out hw') HROW.out); obtain ⟨k0, k1, k2⟩ := hxx)
    go_simp
    with_reducible rfl
  simp only [Act.put, List.setIfInBounds_toArray, List.set_cons_zero, List.set_cons_succ]
  -- 6: slot 12
  refine wpG_take preGr (i := 6) (v := ?_) (by kernel_rfl) (some 12) (by kernel_rfl) rfl (by kernel_rfl) (by kernel_rfl) (by kernel_rfl) (fun _ _ _ h => h) (by rfl) (fun w' hw' => ?_) rfl ?_
  rotate_left
  · try (have hxx := cells3' (heap_gr (Gr.trans HC.out hw') HROW.out); obtain ⟨k0, k1, k2⟩ := hxx)
    go_simp
    with_reducible rfl
  simp only [Act.put, List.setIfInBounds_toArray, List.set_cons_zero, List.set_cons_succ]
  -- 7: slot 13
  refine wpG_take preGr (i := 7) (v := ?_) (by kernel_rfl) (some 13) (by kernel_rfl) rfl (by kernel_rfl) (by kernel_rfl) (by kernel_rfl) (fun _ _ _ h => h) (by rfl) (fun w' hw' => ?_) rfl ?_
  rotate_left
  · try (have hxx := cells3' (heap_gr (Gr.trans HC.out hw') HROW.out); obtain ⟨k0, k1, k2⟩ := hxx)
    go_simp
    with_reducible rfl
  simp only [Act.put, List.setIfInBounds_toArray, List.set_cons_zero, List.set_cons_succ]
  -- 9: slot 15
  refine wpG_take preGr (i := 9) (v := ?_) (by kernel_rfl) (some 15) (by kernel_rfl) rfl (by kernel_rfl) (by kernel_rfl) (by kernel_rfl) (fun _ _ _ h => h) (by rfl) (fun w' hw' => ?_) rfl ?_
  rotate_left
  · try (have hxx := cells3' (heap_gr (Gr.trans HC.out hw') HROW.out); obtain ⟨k0, k1, k2⟩ := hxx)
    go_simp
    with_reducible rfl
  simp only [Act.put, List.setIfInBounds_toArray, List.set_cons_zero, List.set_cons_succ]
  -- 10: slot 16
  refine wpG_take preGr (i := 10) (v := ?_) (by kernel_rfl) (some 16) (by kernel_rfl) rfl (by kernel_rfl) (by kernel_rfl) (by kernel_rfl) (fun _ _ _ h => h) (by rfl) (fun w' hw' => ?_) rfl ?_
  rotate_left
  · try (have hxx := cells3' (heap_gr (Gr.trans HC.out hw') HROW.out); obtain ⟨k0, k1, k2⟩ := hxx)
    go_simp
    with_reducible rfl
  simp only [Act.put, List.setIfInBounds_toArray, List.set_cons_zero, List.set_cons_succ]
  -- 11: slot 17
  refine wpG_take preGr (i := 11) (v := ?_) (by kernel_rfl) (some 17) (by kernel_rfl) rfl (by kernel_rfl) (by kernel_rfl) (by kernel_rfl) (fun _ _ _ h => h) (by rfl) (fun w' hw' => ?_) rfl ?_
  rotate_left
  · try (have hxx := cells3' (heap_gr (Gr.trans HC.out hw') HROW.out); obtain ⟨k0, k1, k2⟩ := hxx)
    go_simp
    with_reducible rfl
  simp only [Act.put, List.setIfInBounds_toArray, List.set_cons_zero, List.set_cons_succ]
  -- 12: slot 18
  refine wpG_take preGr (i := 12) (v := ?_) (by kernel_rfl) (some 18) (by kernel_rfl) rfl (by kernel_rfl) (by kernel_rfl) (by kernel_rfl) (fun _ _ _ h => h) (by rfl) (fun w' hw' => ?_) rfl ?_
  rotate_left
  · try (have hxx := cells3' (heap_gr (Gr.trans HC.out hw') HROW.out); obtain ⟨k0, k1, k2⟩ := hxx)
    go_simp
    with_reducible rfl
  simp only [Act.put, List.setIfInBounds_toArray, List.set_cons_zero, List.set_cons_succ]
  refine wpG_one (i := 8) rfl (by kernel_rfl) (by rfl) ?_
  go_simp
  refine (HCF.out wc HC.out).mono ?_
  rintro e w2 ⟨v1, rfl, hne1, ho1, hb1⟩
  refine ⟨hb1, ?_⟩
  obtain ⟨a1, c1, rfl, _, _⟩ := (own_rd ho1).shape
  have HNE1 := Lib.hid hne1
  have HO1 := Lib.hid ho1
  have HBA := Lib.hid hb1
  have HLC := Lib.hid (HH.out.pm.laid.gr HC.out)
  have HSC : Hid (w.heap.size ≤ wc.heap.size) := HC.out.size
  have HC' : Hid (Below w.heap.size w w2) := HC.out.trans (Below.mono hb1 HC.out.size)
  clear hne1 ho1 hb1 HC
  have HC := HC'
  clear HC'
  obtain ⟨w0, hw0⟩ : ∃ x, x = wc := ⟨_, rfl⟩
  rw [← hw0] at HO1 HBA HLC HSC
  clear hw0 wc
  obtain ⟨wc, hwc⟩ : ∃ x, x = w2 := ⟨_, rfl⟩
  subst hwc
  try simp only [Act.put, List.setIfInBounds_toArray, List.set_cons_zero, List.set_cons_succ]
  refine wpG_one (i := 13) rfl (by kernel_rfl) (by rfl) ?_
  go_simp
  refine (HCL.out wc HC.out).mono ?_
  rintro e w3 ⟨v2, rfl, hne2, ho2, hb2⟩
  refine ⟨hb2, ?_⟩
  obtain ⟨a2, c2, rfl, _, _⟩ := (own_rd ho2).shape
  have HO2 := Lib.hid ho2
  have HNE2 := Lib.hid hne2
  have HBB2 := Lib.hid hb2
  have HC' : Hid (Below w.heap.size w w3) := HC.out.trans (Below.mono hb2 HC.out.size)
  clear hne2 ho2 hb2 HC
  have HC := HC'
  clear HC'
  obtain ⟨wb, hwb⟩ : ∃ x, x = wc := ⟨_, rfl⟩
  rw [← hwb] at HO1 HBA HO2 HBB2
  clear hwb wc
  obtain ⟨wc, hwc⟩ : ∃ x, x = w3 := ⟨_, rfl⟩
  subst hwc
  try simp only [Act.put, List.setIfInBounds_toArray, List.set_cons_zero, List.set_cons_succ]
  -- 14: slot 20
  refine wpG_take preGr (i := 14) (v := ?_) (by kernel_rfl) (some 20) (by kernel_rfl) rfl (by kernel_rfl) (by kernel_rfl) (by kernel_rfl) (fun _ _ _ h => h) (by rfl) (fun w' hw' => ?_) rfl ?_
  rotate_left
  · refine Eq.trans (build_run (P := Tryd.prog) 60 [(0, .tmp 9), (1, .tmp 14), (2, .tmp 19)] ?_ #[.int .i64 B, .slice a1 nf c1, .slice a2 nl c2] ?_) ?_
    · rfl
    · exact builtP B a1 nf c1 a2 nl c2
    · with_reducible rfl
  simp only [Act.put, List.setIfInBounds_toArray, List.set_cons_zero, List.set_cons_succ]
  refine wpG_one (i := 15) rfl (by kernel_rfl) (by rfl) ?_
  go_simp
  refine ⟨(Gr.refl _).alloc _, ?_⟩
  try simp only [Act.put, List.setIfInBounds_toArray, List.set_cons_zero, List.set_cons_succ]
  -- 16: slot 2
  refine wpG_take preGr (i := 16) (v := ?_) (by kernel_rfl) (some 2) (by kernel_rfl) rfl (by kernel_rfl) (by kernel_rfl) (by kernel_rfl) (fun _ _ _ h => h) (by rfl) (fun w' hw' => ?_) rfl ?_
  rotate_left
  · try (have hxx := cells3' (heap_gr (Gr.trans HC.out hw') HROW.out); obtain ⟨k0, k1, k2⟩ := hxx)
    go_simp
    with_reducible rfl
  simp only [Act.put, List.setIfInBounds_toArray, List.set_cons_zero, List.set_cons_succ]
  refine wpG_done (by kernel_rfl) ?_ _
  go_wp2
  go_ret
  have hh := HH.out
  have o1 := HO1.out
  have o2 := HO2.out
  rw [HNF.out] at o1
  rw [HNL.out] at o2
  obtain ⟨q1, q2⟩ := pm_made (B := B) HLC.out ⟨hh.pm.fo.few, hh.pm.lo.few⟩ ⟨hh.pm.fo.ok, hh.pm.lo.ok⟩ (by rw [HNF.out]; exact o1) HNE1.out HBA.out (by rw [HNL.out]; exact o2) HNE2.out HBB2.out
  refine ⟨_, rfl, ⟨.slice a1 nf c1, m.fr, .slice a2 nl c2, m.le⟩, ⟨by rw [← HBB.out]; exact q1, hh.ok, hh.ties⟩, fun k hk => Nat.le_trans HSC.out (q2 k hk), HC.out.alloc HC.out.size _⟩
end Go.Proofs.YtoemghinolekgaaDoor.Pl
