import Derived.Test.YtjlacialbfhjcaaDoorShaG
namespace Go.Proofs.YtjlacialbfhjcaaDoor
open Go.RowKit
set_option linter.unusedVariables false
set_option linter.unusedSimpArgs false

theorem run_slice_arr {P : Program} {t e : TypeId} {N : Nat} {i : TypeInfo} (ht : P.underlying t = some (.array N e)) (hi : P.info? e = some i) (hs : i.size = 1) (g o r : Nat) (hr : r < N) (kl : IntKind) (w : World) :
    (Instr.sliceAt t (.pointer (some ⟨g, o, none⟩)) (some (.int kl (r : Int))) none none).run P w = .ok (.slice (some ⟨g, o + r, none⟩) (N - r) (N - r)) w := by
  have hN : P.arrayLen t = N := by simp [Program.arrayLen, ht]
  have hE : P.elem t = e := by simp [Program.elem, ht]
  rw [run_sliceAt_array_l w t ⟨g, o, none⟩ (by rw [hN, hE]; exact ht) kl r (by omega) (by rw [hN]; omega), hN, hE, run_sizeOf hi hs]
  simp only [Result.andThen, slicedAt, Int.toNat_natCast, Nat.mul_one, Addr.add_lit]
  rw [if_neg (by omega)]
/-- 's[k:]', and where it lies. -/
theorem slice_from_off {P : Program} {t e : TypeId} {i : TypeInfo} (ht : P.underlying t = some (.slice e)) (hi : P.info? e = some i) (hs : i.size = 1) {w : World} {n c : Nat} {ao : Option Addr} {xs : List Value}
    (h : Rd w 1 (.slice ao n c) n xs) (kk : IntKind) (k : Nat) (hk : k ≤ n) (g : Nat) (hoff : Off g ao) :
    ∃ ao', (∀ w', (Instr.slice t (.slice ao n c) (some (.int kk (k : Int))) none none).run P w' = .ok (.slice ao' (n - k) (c - k)) w') ∧ Rd w 1 (.slice ao' (n - k) (c - k)) (n - k) (xs.drop k) ∧ Off g ao' := by
  have hc := Rd.cut (n' := n - k) (k := k) h (by omega)
  refine ⟨if c = k then ao else ao.map (·.add (k * 1)), fun w' => ?_, ?_, ?_⟩
  · rw [run_slice_l w' t ao n c (by rw [elem_of ht]; exact ht) kk k (by omega) (by omega), elem_of ht, run_sizeOf hi hs]
    simp only [Result.andThen, sliced, Int.toNat_natCast]
  · simp only [Nat.mul_one] at hc ⊢
    rwa [List.take_of_length_le (by rw [List.length_drop, h.1]; omega)] at hc
  · intro ad had
    split at had
    · exact hoff ad had
    · cases ao with
      | none => cases had
      | some a' =>
        simp only [Option.map_some, Option.some.injEq] at had
        subst had
        rw [add_block]
        exact hoff a' rfl
theorem Laid.only {w w' : World} {g : Nat} (h : Laid w) (hg : 0 < g) (ho : Only g w w') : Laid w' :=
  ⟨Nat.lt_of_lt_of_le h.1 ho.size, fun i hi => ho.cell (by show 0 ≠ g; omega) (h.2 i hi)⟩
/-- What holds in Add's loop: k bytes are added. -/
def AddI (w wr : World) (g : Nat) (t l : List UInt8) (k : Nat) (ao : Option Addr) (c : Nat) : Prop :=
  HashAt wr g (t ++ l.take k) ∧ Rd wr 1 (.slice ao (l.length - k) c) (l.length - k) ((l.drop k).map u8v) ∧ (k < l.length → Off g ao) ∧ Only g w wr ∧ Laid wr
theorem take_more (t l x : List UInt8) (k m : Nat) (hx : x = (l.drop k).take m) : t ++ l.take (k + m) = (t ++ l.take k) ++ x := by
  rw [hx, List.append_assoc, List.take_add]
theorem hashAt_part {w : World} {g k m TL r : Nat} {t l left left2 x : List UInt8} {S : St} (hTL : TL = (t ++ l.take k).length) (hr : r = TL % 64) (hS : S = hashS (t ++ l.take k)) (hx : x = (l.drop k).take m) (hxl : x.length = m)
    (hlo : LeftOK left (t ++ l.take k)) (hl2 : left2 = splice left r x) (hlt : r + m < 64) (hg : w.heap[g]? = some (.cells (hcells S left2 (TL + m)).toArray 82 (0, 0))) : HashAt w g (t ++ l.take (k + m)) := by
  subst hr hTL
  obtain ⟨g1, g2⟩ := grow_part left (t ++ l.take k) x hlo (by rw [hxl]; exact hlt)
  rw [take_more t l x k m hx]
  refine ⟨left2, by rw [hl2]; exact g1, ?_⟩
  rw [g2, ← hS, hg, show (t ++ l.take k ++ x).length = (t ++ l.take k).length + m by rw [List.length_append, hxl]]
theorem hashAt_full {w : World} {g k m TL r : Nat} {t l left left2 x : List UInt8} {S : St} (hTL : TL = (t ++ l.take k).length) (hr : r = TL % 64) (hS : S = hashS (t ++ l.take k)) (hx : x = (l.drop k).take m) (hxl : x.length = m)
    (hlo : LeftOK left (t ++ l.take k)) (hl2 : left2 = splice left r x) (hlt : r + m = 64) (hg : w.heap[g]? = some (.cells (hcells (S.step left2) left2 (TL + m)).toArray 82 (0, 0))) : HashAt w g (t ++ l.take (k + m)) := by
  subst hr hTL
  obtain ⟨g1, g2⟩ := grow_full left (t ++ l.take k) x hlo (by rw [hxl]; exact hlt)
  rw [take_more t l x k m hx]
  refine ⟨left2, by rw [hl2]; exact g1, ?_⟩
  rw [g2, ← hS, ← hl2, hg, show (t ++ l.take k ++ x).length = (t ++ l.take k).length + m by rw [List.length_append, hxl]]
theorem rd_next {w : World} {l : List UInt8} {ao : Option Addr} {c j k m : Nat} (hj : j = l.length - k) (h : Rd w 1 (.slice ao (j - m) (c - m)) (j - m) (((l.drop k).map u8v).drop m)) :
    Rd w 1 (.slice ao (l.length - (k + m)) (c - m)) (l.length - (k + m)) ((l.drop (k + m)).map u8v) := by
  subst hj
  rw [Nat.sub_sub, ← List.map_drop, List.drop_drop] at h
  exact h
set_option maxHeartbeats 2000000 in
theorem add_any (g : Nat) (t : List UInt8) (w : World) (h : HashAt w g t) (hL : Laid w) (hg : 0 < g) (ao : Option Addr) (n c : Nat) (l : List UInt8) (hn : l.length = n) (hb : Bs w (.slice ao n c) l) (hoff : 0 < n → Off g ao) (hsz : t.length + l.length < 4611686018427387904) :
    Calls Tryd.prog 41 #[.pointer (some ⟨g, 0, none⟩), .slice ao n c] w fun e w' => e = .returned (.int .i64 0) ∧ HashAt w' g (t ++ l) ∧ Only g w w' := by
  subst hn
  have HM := Lib.hid (isMade_yes g w h.made)
  have hI : AddI w w g t l 0 ao c := ⟨by simpa using h, by have := hb; unfold Bs at this; simpa using this, hoff, Only.refl _ _, hL⟩
  have HI := Lib.hid hI
  clear hI h hL hb hoff
  go_enter Tryd.func41, Tryd.ntmps41
  go_wp2_with (go_at_call 50; refine HM.out.mono ?_; rintro e w1 ⟨rfl, rfl⟩)
  go_loopw [1] (fun b wr => ∃ (k : Nat) (ao : Option Addr) (c : Nat), k ≤ l.length ∧ b = .slice ao (l.length - k) c ∧ Hid (AddI w wr g t l k ao c)) (fun b _ => slen b)
  case atStart => exact ⟨0, ao, c, by omega, rfl, HI⟩
  case round =>
    clear HI HM
    obtain ⟨k, ao, c, hk, rfl, HI⟩ := hrel
    by_cases hlt : k < l.length
    · obtain ⟨TL, hTL⟩ : ∃ TL, TL = (t ++ l.take k).length := ⟨_, rfl⟩
      have hTL2 : TL = t.length + k := by rw [hTL, List.length_append, List.length_take]; omega
      obtain ⟨r, hr⟩ : ∃ r, r = TL % 64 := ⟨_, rfl⟩
      have hr64 : r < 64 := by omega
      have hr' : (TL : Int) % 64 = (r : Int) := by omega
      obtain ⟨j, hj⟩ : ∃ j, j = l.length - k := ⟨_, rfl⟩
      have hj0 : 0 < j := by omega
      have s0 : ∀ w', Gr wr.drew w' → w'.cell? ⟨g, 73, none⟩ = some (.int .i64 (TL : Int)) := fun w' hg => by rw [hTL]; exact ((HI.out.1.below (Gr.drew _)).below hg).size
      have r0 : (0 : Int) ≤ (r : Int) := by omega
      have r1 : (r : Int) ≤ 64 := by omega
      have hr'' : (TL : Int).tmod 64 = (r : Int) := by rw [Int.tmod_eq_emod_of_nonneg (by omega)]; omega
      obtain ⟨i0, hi, hz0, hz1, hz2⟩ := info_parts info5
      have hsl : ∀ w', (Instr.sliceAt 69 (.pointer (some ⟨g, 9, none⟩)) (some (.int .i64 (r : Int))) none none).run Tryd.prog w' = .ok (.slice (some ⟨g, 9 + r, none⟩) (64 - r) (64 - r)) w' := fun w' => run_slice_arr Tryd.underlying69 hi hz1 g 9 r hr64 .i64 w'
      have t0 : (0 : Int) ≤ (TL : Int) := by omega
      obtain ⟨m, hm⟩ : ∃ m, m = min j (64 - r) := ⟨_, rfl⟩
      obtain ⟨x, hx⟩ : ∃ x, x = (l.drop k).take m := ⟨_, rfl⟩
      have hxl : x.length = m := by rw [hx, List.length_take, List.length_drop]; omega
      have hmj : m ≤ j := by omega
      have hm0 : 0 < m := by omega
      have hrm : r + m ≤ 64 := by omega
      obtain ⟨S, hS⟩ : ∃ S, S = hashS (t ++ l.take k) := ⟨_, rfl⟩
      obtain ⟨left, hlo, hg1⟩ := HI.out.1
      rw [← hTL, ← hS] at hg1
      have hl64 : left.length = 64 := hlo.1
      have HG1 : Hid (wr.drew.heap[g]? = some (.cells (hcells S left TL).toArray 82 (0, 0))) := by
        show wr.drew.heap[g]? = _
        rw [heap_drew]; exact hg1
      have hrd : Rd wr.drew 1 (.slice ao j c) j ((l.drop k).map u8v) := by
        have h2 := HI.out.2.1
        rw [← hj] at h2
        exact h2.below (Gr.drew _)
      have HPOS : Hid (0 < (x.map u8v).length → ∃ ad, ao = some ad ∧ ∀ i v, (x.map u8v)[i]? = some v → wr.drew.cell? (ad.add i) = some v) := by
        intro _
        obtain ⟨_, ao', cap, e, h1, _, h3, h4⟩ := hrd
        simp only [Value.slice.injEq] at e
        obtain ⟨rfl, _, _⟩ := e
        cases hao : ao with
        | none => have := h3 hao; omega
        | some ad =>
          refine ⟨ad, rfl, fun i v hv => h4 ad hao i v ?_⟩
          rw [hx, List.map_take, List.getElem?_take] at hv
          split at hv
          · exact hv
          · cases hv
      have HFIT : Hid (9 + r + (x.map u8v).length ≤ (hcells S left TL).length) := by
        show _ ≤ _
        rw [hcells_length _ _ _ hl64, List.length_map, hxl]; omega
      have HLEN : Hid ((x.map u8v).length = Nat.min j (64 - r)) := by
        show _ = _
        rw [List.length_map, hxl, hm]
      have HRD := Lib.hid hrd
      have HTL := Lib.hid hTL
      have HTL2 := Lib.hid hTL2
      have HRR := Lib.hid hr
      have HJ := Lib.hid hj
      have HS := Lib.hid hS
      have HX := Lib.hid hx
      have HLO := Lib.hid hlo
      have HL64 := Lib.hid hl64
      have hbd : TL + m < 4611686018427387904 := by omega
      rw [← hj]
      clear hTL hTL2 hr hj hrd hS hx hg1 hlo hl64 hm
      go_wp2
      refine wp_region_G 10 Gr (by kernel_rfl) ?_
      -- 0: slot 12
      refine wpG_take preGr (i := 0) (v := ?_) (by kernel_rfl) (some 12) (by kernel_rfl) rfl (by kernel_rfl) (by kernel_rfl) (by kernel_rfl) (fun _ _ _ h => h) (by rfl) (fun w' hw' => ?_) rfl ?_
      rotate_left
      · go_simp
        with_reducible rfl
      simp only [Act.put, List.setIfInBounds_toArray, List.set_cons_zero, List.set_cons_succ]
      -- 1: slot 13
      refine wpG_take preGr (i := 1) (v := ?_) (by kernel_rfl) (some 13) (by kernel_rfl) rfl (by kernel_rfl) (by kernel_rfl) (by kernel_rfl) (fun _ _ _ h => h) (by rfl) (fun w' hw' => ?_) rfl ?_
      rotate_left
      · go_simp
        with_reducible rfl
      simp only [Act.put, List.setIfInBounds_toArray, List.set_cons_zero, List.set_cons_succ]
      -- 2: slot 14
      refine wpG_take preGr (i := 2) (v := ?_) (by kernel_rfl) (some 14) (by kernel_rfl) rfl (by kernel_rfl) (by kernel_rfl) (by kernel_rfl) (fun _ _ _ h => h) (by rfl) (fun w' hw' => ?_) rfl ?_
      rotate_left
      · go_simp
        with_reducible rfl
      simp only [Act.put, List.setIfInBounds_toArray, List.set_cons_zero, List.set_cons_succ]
      -- 3: slot 15
      refine wpG_take preGr (i := 3) (v := ?_) (by kernel_rfl) (some 15) (by kernel_rfl) rfl (by kernel_rfl) (by kernel_rfl) (by kernel_rfl) (fun _ _ _ h => h) (by rfl) (fun w' hw' => ?_) rfl ?_
      rotate_left
      · go_simp
        with_reducible rfl
      simp only [Act.put, List.setIfInBounds_toArray, List.set_cons_zero, List.set_cons_succ]
      -- 4: slot 16
      refine wpG_take preGr (i := 4) (v := ?_) (by kernel_rfl) (some 16) (by kernel_rfl) rfl (by kernel_rfl) (by kernel_rfl) (by kernel_rfl) (fun _ _ _ h => h) (by rfl) (fun w' hw' => ?_) rfl ?_
      rotate_left
      · go_simp
        with_reducible rfl
      simp only [Act.put, List.setIfInBounds_toArray, List.set_cons_zero, List.set_cons_succ]
      -- 5: slot 17
      refine wpG_take preGr (i := 5) (v := ?_) (by kernel_rfl) (some 17) (by kernel_rfl) rfl (by kernel_rfl) (by kernel_rfl) (by kernel_rfl) (fun _ _ _ h => h) (by rfl) (fun w' hw' => ?_) rfl ?_
      rotate_left
      · go_simp
        with_reducible rfl
      simp only [Act.put, List.setIfInBounds_toArray, List.set_cons_zero, List.set_cons_succ]
      -- 6: slot 18
      refine wpG_take preGr (i := 6) (v := ?_) (by kernel_rfl) (some 18) (by kernel_rfl) rfl (by kernel_rfl) (by kernel_rfl) (by kernel_rfl) (fun _ _ _ h => h) (by rfl) (fun w' hw' => ?_) rfl ?_
      rotate_left
      · go_simp
        with_reducible rfl
      simp only [Act.put, List.setIfInBounds_toArray, List.set_cons_zero, List.set_cons_succ]
      -- 7: slot 19
      refine wpG_take preGr (i := 7) (v := ?_) (by kernel_rfl) (some 19) (by kernel_rfl) rfl (by kernel_rfl) (by kernel_rfl) (by kernel_rfl) (fun _ _ _ h => h) (by rfl) (fun w' hw' => ?_) rfl ?_
      rotate_left
      · go_simp
        with_reducible rfl
      simp only [Act.put, List.setIfInBounds_toArray, List.set_cons_zero, List.set_cons_succ]
      -- 8: slot 20
      refine wpG_take preGr (i := 8) (v := ?_) (by kernel_rfl) (some 20) (by kernel_rfl) rfl (by kernel_rfl) (by kernel_rfl) (by kernel_rfl) (fun _ _ _ h => h) (by rfl) (fun w' hw' => ?_) rfl ?_
      rotate_left
      · go_simp
        with_reducible rfl
      simp only [Act.put, List.setIfInBounds_toArray, List.set_cons_zero, List.set_cons_succ]
      -- 9: slot 21
      refine wpG_take preGr (i := 9) (v := ?_) (by kernel_rfl) (some 21) (by kernel_rfl) rfl (by kernel_rfl) (by kernel_rfl) (by kernel_rfl) (fun _ _ _ h => h) (by rfl) (fun w' hw' => ?_) rfl ?_
      rotate_left
      · go_simp
        with_reducible rfl
      simp only [Act.put, List.setIfInBounds_toArray, List.set_cons_zero, List.set_cons_succ]
      refine wpG_tail (i := 10) (by decide) rfl (by kernel_rfl) (by rfl) ?_
      refine wp_copy_only (some 22) _ _ 22 22 rfl 5 Tryd.underlying22 (by kernel_rfl) g (9 + r) (64 - r) (64 - r) ao j c rfl rfl _ 82 HG1.out (x.map u8v) HLEN.out HPOS.out HFIT.out (oneCell_u8 _) rfl ?_
      intro w2 h2 ho2
      try simp only [Act.put, List.setIfInBounds_toArray, List.set_cons_zero, List.set_cons_succ]
      refine wpG_tail (i := 11) (by decide) rfl (by kernel_rfl) (by rfl) ?_
      go_simp
      try simp only [Act.put, List.setIfInBounds_toArray, List.set_cons_zero, List.set_cons_succ]
      refine wpG_done (by kernel_rfl) ?_ _
      obtain ⟨left2, hl2⟩ : ∃ left2, left2 = splice left r x := ⟨_, rfl⟩
      rw [hcells_splice _ _ _ _ _ HL64.out (by rw [hxl]; exact hrm), ← hl2] at h2
      have hl264 : left2.length = 64 := by rw [hl2, length_splice _ _ _ (by rw [HL64.out, hxl]; exact hrm)]; exact HL64.out
      have c73 : w2.cell? ⟨g, 73, none⟩ = some (.int .i64 (TL : Int)) := by
        rw [cell_of_row _ _ _ _ _ _ h2]
        have := hcells_size S left2 TL hl264
        simpa using this
      have f73 : w2.frozen? ⟨g, 73, none⟩ = false := frozen_of_row _ _ _ _ _ h2
      obtain ⟨ao2, hrun, hrd2, hoff2⟩ := slice_from_off Tryd.underlying22 hi hz1 (HRD.out.only ho2 (HI.out.2.2.1 hlt)) .i64 m hmj g (HI.out.2.2.1 hlt)
      have HO2 : Hid (Only g w w2) := HI.out.2.2.2.1.trans (Only.trans (Only.grown (Gr.drew _) (by have := HI.out.1.lt; omega)) ho2)
      have HLD2 : Hid (Laid w2) := (HI.out.2.2.2.2.below (Gr.drew _)).only hg ho2
      have HG2 : Hid ((w2.setCell ⟨g, 73, none⟩ (.int .i64 ((TL : Int) + (m : Int)))).heap[g]? = some (.cells (hcells S left2 (TL + m)).toArray 82 (0, 0))) := by
        show _ = _
        rw [heap_setCell_same _ _ _ _ _ _ h2, ← hcells_setSize S left2 TL (TL + m) hl264]
        simp
      have HO3 : Hid (Only g w (w2.setCell ⟨g, 73, none⟩ (.int .i64 ((TL : Int) + (m : Int))))) := HO2.out.trans (Only.setCell _ _ _)
      have HLD3 : Hid (Laid (w2.setCell ⟨g, 73, none⟩ (.int .i64 ((TL : Int) + (m : Int))))) := HLD2.out.only hg (Only.setCell _ _ _)
      have HRD2 : Hid (Rd (w2.setCell ⟨g, 73, none⟩ (.int .i64 ((TL : Int) + (m : Int)))) 1 (.slice ao2 (j - m) (c - m)) (j - m) (((l.drop k).map u8v).drop m)) := hrd2.only (Only.setCell _ _ _) hoff2
      have HL2 := Lib.hid hl2
      have HL264 := Lib.hid hl264
      clear h2 hl2 hl264 hrd2 ho2 s0
      by_cases hfull : r + m = 64
      · have hb : (((TL : Int) + (m : Int)) % 64 == 0) = true := by
          have := HRR.out
          simp only [beq_iff_eq]; omega
        go_wp2
        clear c73 f73
        generalize (w2.setCell ⟨g, 73, none⟩ (.int .i64 ((TL : Int) + (m : Int)))) = w3 at HG2 HO3 HLD3 HRD2 ⊢
        have HST : Hid (∀ w', Gr w3.drew w' → w'.rangeAt g 1 S.cells) := fun w' hg => by
          have hh := heap_below (show w3.drew.heap[g]? = _ by rw [heap_drew]; exact HG2.out) hg
          intro i v hv
          rw [cell_of_row _ _ _ _ _ _ hh, hcells]
          have hi : i < S.cells.length := (List.getElem?_eq_some_iff.1 hv).1
          rw [Nat.add_comm 1 i, List.getElem?_toArray, List.getElem?_cons_succ, List.getElem?_append_left hi]
          exact hv
        have HLF : Hid (∀ w', Gr w3.drew w' → w'.rangeAt g 9 (left2.map u8v)) := fun w' hg => by
          have hh := heap_below (show w3.drew.heap[g]? = _ by rw [heap_drew]; exact HG2.out) hg
          intro i v hv
          rw [cell_of_row _ _ _ _ _ _ hh, hcells]
          have hi : i < (left2.map u8v).length := (List.getElem?_eq_some_iff.1 hv).1
          rw [show 9 + i = (8 + i) + 1 by omega, List.getElem?_toArray, List.getElem?_cons_succ, List.getElem?_append_right (by rw [scells_length]; omega), scells_length, Nat.add_sub_cancel_left, List.getElem?_append_left hi]
          exact hv
        have HSB : Hid ((Tryd.prog.info? 69).map (·.size) = some (left2.map u8v).length) := by
          show _ = _
          rw [List.length_map, HL264.out]; exact size64b
        have HSTEP := Lib.hid (step_any S left2 HL264.out w3.drew (HLD3.out.below (Gr.drew _)))
        refine wp_region_G 12 Gr (by kernel_rfl) ?_
        -- 0: slot 40
        refine wpG_take preGr (i := 0) (v := ?_) (by kernel_rfl) (some 40) (by kernel_rfl) rfl (by kernel_rfl) (by kernel_rfl) (by kernel_rfl) (fun _ _ _ h => h) (by rfl) (fun w' hw' => ?_) rfl ?_
        rotate_left
        · go_simp
          with_reducible rfl
        simp only [Act.put, List.setIfInBounds_toArray, List.set_cons_zero, List.set_cons_succ]
        -- 1: slot 41
        refine wpG_take preGr (i := 1) (v := ?_) (by kernel_rfl) (some 41) (by kernel_rfl) rfl (by kernel_rfl) (by kernel_rfl) (by kernel_rfl) (fun _ _ _ h => h) (by rfl) (fun w' hw' => ?_) rfl ?_
        rotate_left
        · go_simp
          with_reducible rfl
        simp only [Act.put, List.setIfInBounds_toArray, List.set_cons_zero, List.set_cons_succ]
        -- 2: slot 42
        refine wpG_take preGr (i := 2) (v := ?_) (by kernel_rfl) (some 42) (by kernel_rfl) rfl (by kernel_rfl) (by kernel_rfl) (by kernel_rfl) (fun _ _ _ h => h) (by rfl) (fun w' hw' => ?_) rfl ?_
        rotate_left
        · go_simp
          with_reducible rfl
        simp only [Act.put, List.setIfInBounds_toArray, List.set_cons_zero, List.set_cons_succ]
        -- 3: slot 43
        refine wpG_take preGr (i := 3) (v := ?_) (by kernel_rfl) (some 43) (by kernel_rfl) rfl (by kernel_rfl) (by kernel_rfl) (by kernel_rfl) (fun _ _ _ h => h) (by rfl) (fun w' hw' => ?_) rfl ?_
        rotate_left
        · go_simp
          with_reducible rfl
        simp only [Act.put, List.setIfInBounds_toArray, List.set_cons_zero, List.set_cons_succ]
        -- 4: slot 44
        refine wpG_take preGr (i := 4) (v := ?_) (by kernel_rfl) (some 44) (by kernel_rfl) rfl (by kernel_rfl) (by kernel_rfl) (by kernel_rfl) (fun _ _ _ h => h) (by rfl) (fun w' hw' => ?_) rfl ?_
        rotate_left
        · refine Eq.trans (load_mid_run (P := Tryd.prog) 78 (.tmp 43) ?_ g 1 ?_ S.cells _ (HST.out w' hw') Tryd.underlying78 rfl (size8c S)) ?_
          · rfl
          · rfl
          · with_reducible rfl
        simp only [Act.put, List.setIfInBounds_toArray, List.set_cons_zero, List.set_cons_succ]
        -- 5: slot 45
        refine wpG_take preGr (i := 5) (v := ?_) (by kernel_rfl) (some 45) (by kernel_rfl) rfl (by kernel_rfl) (by kernel_rfl) (by kernel_rfl) (fun _ _ _ h => h) (by rfl) (fun w' hw' => ?_) rfl ?_
        rotate_left
        · go_simp
          with_reducible rfl
        simp only [Act.put, List.setIfInBounds_toArray, List.set_cons_zero, List.set_cons_succ]
        -- 6: slot 46
        refine wpG_take preGr (i := 6) (v := ?_) (by kernel_rfl) (some 46) (by kernel_rfl) rfl (by kernel_rfl) (by kernel_rfl) (by kernel_rfl) (fun _ _ _ h => h) (by rfl) (fun w' hw' => ?_) rfl ?_
        rotate_left
        · go_simp
          with_reducible rfl
        simp only [Act.put, List.setIfInBounds_toArray, List.set_cons_zero, List.set_cons_succ]
        -- 7: slot 47
        refine wpG_take preGr (i := 7) (v := ?_) (by kernel_rfl) (some 47) (by kernel_rfl) rfl (by kernel_rfl) (by kernel_rfl) (by kernel_rfl) (fun _ _ _ h => h) (by rfl) (fun w' hw' => ?_) rfl ?_
        rotate_left
        · go_simp
          with_reducible rfl
        simp only [Act.put, List.setIfInBounds_toArray, List.set_cons_zero, List.set_cons_succ]
        -- 8: slot 48
        refine wpG_take preGr (i := 8) (v := ?_) (by kernel_rfl) (some 48) (by kernel_rfl) rfl (by kernel_rfl) (by kernel_rfl) (by kernel_rfl) (fun _ _ _ h => h) (by rfl) (fun w' hw' => ?_) rfl ?_
        rotate_left
        · refine Eq.trans (load_mid_run (P := Tryd.prog) 69 (.tmp 47) ?_ g 9 ?_ (left2.map u8v) _ (HLF.out w' hw') Tryd.underlying69 rfl HSB.out) ?_
          · rfl
          · rfl
          · with_reducible rfl
        simp only [Act.put, List.setIfInBounds_toArray, List.set_cons_zero, List.set_cons_succ]
        refine wpG_one (i := 9) rfl (by kernel_rfl) (by rfl) ?_
        go_simp
        refine (HSTEP.out).mono ?_
        rintro e w4 ⟨rfl, hb4⟩
        refine ⟨hb4, ?_⟩
        try simp only [Act.put, List.setIfInBounds_toArray, List.set_cons_zero, List.set_cons_succ]
        -- 10: slot 50
        refine wpG_take preGr (i := 10) (v := ?_) (by kernel_rfl) (some 50) (by kernel_rfl) rfl (by kernel_rfl) (by kernel_rfl) (by kernel_rfl) (fun _ _ _ h => h) (by rfl) (fun w' hw' => ?_) rfl ?_
        rotate_left
        · go_simp
          with_reducible rfl
        simp only [Act.put, List.setIfInBounds_toArray, List.set_cons_zero, List.set_cons_succ]
        -- 11: slot 51
        refine wpG_take preGr (i := 11) (v := ?_) (by kernel_rfl) (some 51) (by kernel_rfl) rfl (by kernel_rfl) (by kernel_rfl) (by kernel_rfl) (fun _ _ _ h => h) (by rfl) (fun w' hw' => ?_) rfl ?_
        rotate_left
        · go_simp
          with_reducible rfl
        simp only [Act.put, List.setIfInBounds_toArray, List.set_cons_zero, List.set_cons_succ]
        refine wpG_tail (i := 12) (by decide) rfl (by kernel_rfl) (by rfl) ?_
        have HG4 : Hid (w4.heap[g]? = some (.cells (hcells S left2 (TL + m)).toArray 82 (0, 0))) := heap_below (show w3.drew.heap[g]? = _ by rw [heap_drew]; exact HG2.out) hb4
        refine wp_store_splice (none) 78 _ _ rfl g 1 (S.step left2).cells rfl rfl 82 _ HG4.out (size8c _) (by rw [hcells_length _ _ _ HL264.out, scells_length]; omega) (by intro v hv; obtain ⟨x, _, rfl⟩ := List.mem_map.1 hv; rfl) rfl ?_
        intro w5 h5 ho5
        try simp only [Act.put, List.setIfInBounds_toArray, List.set_cons_zero, List.set_cons_succ]
        refine wpG_done (by kernel_rfl) ?_ _
        rw [hcells_state] at h5
        have HI5 : Hid (AddI w w5 g t l (k + m) ao2 (c - m)) := by
          have hlt3 : g < w3.drew.heap.size := by have := (Array.getElem?_eq_some_iff.1 HG2.out).1; exact this
          have o4 : Only g w3 w4 := (Only.grown (Gr.drew w3) (Nat.le_of_lt hlt3)).trans (Only.grown hb4 (Nat.le_of_lt hlt3))
          have o5 : Only g w3 w5 := o4.trans ho5
          exact ⟨hashAt_full HTL.out HRR.out HS.out HX.out hxl HLO.out HL2.out hfull h5, rd_next HJ.out (HRD2.out.only o5 hoff2), fun _ => hoff2, HO3.out.trans o5, HLD3.out.only hg o5⟩
        clear h5 ho5 hb4
        go_wp2
        go_roundw
        case rel =>
          first | exact ⟨k + m, ao2, c - m, by have := HJ.out; omega, by rw [HJ.out, Nat.sub_sub], HI5⟩ | ((repeat apply Exists.intro); exact ⟨⟨k + m, ao2, c - m, by have := HJ.out; omega, by rw [HJ.out, Nat.sub_sub], HI5⟩, rfl⟩)
        case measure => simp [slen]; omega
      · have hb : (((TL : Int) + (m : Int)) % 64 == 0) = false := by
          have := HRR.out
          simp only [beq_eq_false_iff_ne, ne_eq]; omega
        have HI5 : Hid (AddI w (w2.setCell ⟨g, 73, none⟩ (.int .i64 ((TL : Int) + (m : Int)))) g t l (k + m) ao2 (c - m)) := by
          exact ⟨hashAt_part HTL.out HRR.out HS.out HX.out hxl HLO.out HL2.out (by omega) HG2.out, rd_next HJ.out HRD2.out, fun _ => hoff2, HO3.out, HLD3.out⟩
        go_wp2
        go_roundw
        case rel =>
          first | exact ⟨k + m, ao2, c - m, by have := HJ.out; omega, by rw [HJ.out, Nat.sub_sub], HI5⟩ | ((repeat apply Exists.intro); exact ⟨⟨k + m, ao2, c - m, by have := HJ.out; omega, by rw [HJ.out, Nat.sub_sub], HI5⟩, rfl⟩)
        case measure => simp [slen]; omega
    · obtain rfl : k = l.length := by omega
      go_wp2
      go_ret
      have h1 := HI.out.1
      rw [List.take_length] at h1
      exact ⟨rfl, h1, HI.out.2.2.2.1⟩
end Go.Proofs.YtjlacialbfhjcaaDoor
