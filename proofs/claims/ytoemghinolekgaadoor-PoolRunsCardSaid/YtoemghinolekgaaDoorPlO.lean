/-
  Leased: the addresses that are leased, rising.
-/
import Derived.Test.YtoemghinolekgaaDoorPlD
import Derived.Test.YtoemghinolekgaaDoorPlN
import Derived.RangeFuncBox
import Derived.Test.YtoemghinolekgaaDoorGrowR
namespace Go.Proofs.YtoemghinolekgaaDoor.Pl
open Go.RowKit Go.Shelf
open Go.Proofs.YtoemghinolekgaaDoor.Id (Tr Tr.refl Tr.gr Tr.only blk own_blk IR)
set_option linter.unusedVariables false
set_option linter.unusedSimpArgs false
attribute [local go_sem] Oper.semAt_some

theorem infoI : (Tryd.prog.info? 3).map (fun i => (i.zero, i.size, i.bytes)) = some (some (.int .i64 0), 1, 8) := by kernel_rfl
theorem one_int (x : Int) : ∀ u ∈ ([.int .i64 x] : List Value), u.oneCell' = true := by intro u hu; simp only [List.mem_cons, List.not_mem_nil, or_false] at hu; subst hu; rfl
/-- Between two rounds. -/
structure RQ (g : Nat) (B : Int) (w : World) (xs : List Nat) (W : World) : Prop where
  few : xs.length ≤ 65536
  low : Below w.heap.size w W
  pv : W.heap[w.heap.size]? = some (.cells #[.pointer (some ⟨g, 0, none⟩)] 27 (0, 0))
  lv : ∃ v, W.heap[w.heap.size + 1]? = some (.cells #[v] 22 (0, 0)) ∧ W.ownsRow w.heap.size 3 1 v xs.length (ints (xs.map fun i : Nat => B + (i : Int)))
theorem RQ.turns (g : Nat) (Ba : Int) (w : World) (B : Nat) (hB : w.heap.size ≤ B) (xs : List Nat) : Turns B (RQ g Ba w xs) := fun A l o o' h hl ho hc => by
  refine ⟨h.few, turns_below hB A l o o' h.low hl ho hc, turns_block A l o o' h.pv hl ho hc, ?_⟩
  obtain ⟨v, h1, h2⟩ := h.lv
  exact ⟨v, turns_block A l o o' h1 hl ho hc, turns_row A l o o' h2 hl ho hc⟩
theorem RQ.gr {g : Nat} {Ba : Int} {w : World} {xs : List Nat} {A B : World} (h : RQ g Ba w xs A) (hq : Gr A B) : RQ g Ba w xs B := by
  refine ⟨h.few, h.low.trans (Below.mono hq h.low.size), heap_gr hq h.pv, ?_⟩
  obtain ⟨v, h1, h2⟩ := h.lv
  exact ⟨v, heap_gr hq h1, ownsRow_below h2 hq⟩
/-- What stands behind the round's assignments. -/
def MidL (g : Nat) (B : Int) (w : World) (xs : List Nat) (x : Nat) (b : Act) (W : World) : Prop :=
  RQ g B w xs W ∧ (xs.length < 65536 ∧ x < 65536) ∧
    ∃ t0 t2 t5 t6 t7 t8 t9 t10 t11 t12 t13 t14 t15 t16 t17 t18 t19 t20 t21 t22 t23, b = { tmps := #[t0, .pointer (some ⟨w.heap.size, 0, none⟩), t2, .pointer (some ⟨w.heap.size + 1, 0, none⟩), .int .i64 (x : Int), t5, t6, t7, t8, t9, t10, t11, t12, t13, t14, t15, t16, t17, t18, t19, t20, t21, t22, t23], defers := [] }
theorem MidL.turns (g : Nat) (Ba : Int) (w : World) (B : Nat) (hB : w.heap.size ≤ B) (xs : List Nat) (x : Nat) (b : Act) : Turns B (MidL g Ba w xs x b) := fun A l o o' h hl ho hc => by
  obtain ⟨h1, h2, h5⟩ := h
  exact ⟨RQ.turns g Ba w B hB xs A l o o' h1 hl ho hc, h2, h5⟩
set_option maxRecDepth 100000 in
set_option maxHeartbeats 4000000 in
theorem leased_any (g : Nat) {m : Pm} {S : Po} (w : World) (h : PoAt w g m S) :
    Calls Tryd.prog 23 #[.pointer (some ⟨g, 0, none⟩)] w fun e w' => ∃ v, e = .returned v ∧ w'.ownsRow w.heap.size 3 1 v S.L.length (ints S.L) ∧ Below w.heap.size w w' := by
  obtain ⟨i0, hi, hz0, hz1, hz2⟩ := info_parts infoI
  have HH := Lib.hid h
  have hB := h.ok.r.base
  obtain ⟨B, hBe⟩ : ∃ B, B = S.base := ⟨_, rfl⟩
  have HBE := Lib.hid hBe
  rw [← hBe] at hB
  have HB1 : Hid (Below w.heap.size w (w.alloc (.cells #[.pointer (some ⟨g, 0, none⟩)] 27))) := (Below.refl _ _).alloc (Nat.le_refl _) _
  have HM : Hid (Calls Tryd.prog 41 #[.pointer (some ⟨g, 0, none⟩)] (w.alloc (.cells #[.pointer (some ⟨g, 0, none⟩)] 27)) fun e w' => e = .returned (.bool true) ∧ w.alloc (.cells #[.pointer (some ⟨g, 0, none⟩)] 27) = w') := isMade_yes g _ (h.gr HB1.out).pm (by omega)
  have HEL := Lib.hid h.ties.eachL
  obtain ⟨bl, cl, curl, el, _⟩ := h.pm.lo.at
  have HLV := Lib.hid el
  have hrow := h.pm.row
  rw [← hBe] at hrow
  have HROW0 := Lib.hid hrow
  clear h hBe el hrow
  refine (callsIn_wide (n := 0)).1 ?_
  refine callsIn_of_wp_marks Tryd.func23 rfl trivial ?_ rfl
  simp only [Tryd.ntmps23, List.size_toArray, List.length_cons, List.length_nil, Nat.reduceAdd, Nat.reduceSub, Array.replicate_succ, Array.replicate_zero, List.push_toArray, List.append_toArray, List.nil_append, List.cons_append]
  gi_wp2_with fail
  refine ⟨trivial, rfl, ?_⟩
  refine (callsIn_wide.2 HM.out).mono ?_
  rintro e w1 ⟨rfl, rfl⟩
  have HB2 : Hid (Below w.heap.size w ((w.alloc (.cells #[.pointer (some ⟨g, 0, none⟩)] 27)).alloc (.cells #[.slice none 0 0] 22))) := HB1.out.alloc HB1.out.size _
  have HP2 : Hid (((w.alloc (.cells #[.pointer (some ⟨g, 0, none⟩)] 27)).alloc (.cells #[.slice none 0 0] 22)).heap[w.heap.size]? = some (.cells #[.pointer (some ⟨g, 0, none⟩)] 27)) := heap2_0' _ _ _
  have HI2 : Hid (((w.alloc (.cells #[.pointer (some ⟨g, 0, none⟩)] 27)).alloc (.cells #[.slice none 0 0] 22)).heap[w.heap.size + 1]? = some (.cells #[.slice none 0 0] 22)) := heap2_1' _ _ _
  have k0 := (cells3' (heap_gr HB2.out HROW0.out)).1
  have k2 := (cells3' (heap_gr HB2.out HROW0.out)).2.2
  rw [HLV.out] at k2
  have kp : ((w.alloc (.cells #[.pointer (some ⟨g, 0, none⟩)] 27)).alloc (.cells #[.slice none 0 0] 22)).cell? ⟨w.heap.size, 0, none⟩ = some (.pointer (some ⟨g, 0, none⟩)) := by rw [cell_of_row _ _ _ _ _ _ HP2.out]; rfl
  gi_wp2
  have H0 : Hid (RQ g B w [] ((w.alloc (.cells #[.pointer (some ⟨g, 0, none⟩)] 27)).alloc (.cells #[.slice none 0 0] 22))) := ⟨Nat.zero_le _, HB2.out, HP2.out, _, HI2.out, World.ownsRow_nil _ _ _ _⟩
  have HA4 : Hid (PoAt ((w.alloc (.cells #[.pointer (some ⟨g, 0, none⟩)] 27)).alloc (.cells #[.slice none 0 0] 22)) g m S) := HH.out.gr HB2.out
  have hsz : w.heap.size < ((w.alloc (.cells #[.pointer (some ⟨g, 0, none⟩)] 27)).alloc (.cells #[.slice none 0 0] 22)).heap.size := by simp; omega
  clear k0 k2 kp HM HB1
  generalize (w.alloc (.cells #[.pointer (some ⟨g, 0, none⟩)] 27)).alloc (.cells #[.slice none 0 0] 22) = w4 at HB2 HP2 HI2 H0 HA4 hsz ⊢
  have hle4 : w.heap.size ≤ w4.heap.size := by omega
  refine rangedM (B := w.heap.size) hle4 (gf := 43) (rc := .slice (some ⟨bl, 0, none⟩) m.le.length cl) rfl (enters_of Tryd.func43 (by kernel_rfl) rfl) encN (fun _ => rfl)
    (fun xs x _ => xs.length < 65536 ∧ x < 65536) (RQ g B w) (fun _ _ => False) (MidL g B w) (fun xs => xs = eachW m.le) (RQ.turns g B w _ hle4) (fun _ _ _ _ _ h _ _ _ => h) (MidL.turns g B w _ hle4) (fun _ _ _ h hq => h.gr hq) H0.out ?assign ?body ?seq ?done ?stop
  case seq =>
    intro lp J Jx W hW hI hJ hY h0
    refine each_in lp w.heap.size W J Jx hJ (fun xs V hV => ?_) (fun xs x V hV hx hx2 => hY xs x V hV ⟨hx, hx2⟩) h0
    have := HH.out.gr (hI _ _ hV).low
    have h1 := this.pm.lo
    rw [HLV.out] at h1
    exact ⟨h1, this.pm.laid⟩
  case assign =>
    intro lp xs x W hI hG
    have HI := Lib.hid hI
    have HG := Lib.hid hG
    clear hI hG
    simp only [encN]
    gi_wp2
    exact ⟨KeepsFrom.refl _ _, Below.refl _ _, HI.out, HG.out, _, _, _, _, _, _, _, _, _, _, _, _, _, _, _, _, _, _, _, _, _, rfl⟩
  case body =>
    rintro lp xs x b W ⟨hI, hG, t0, t2, t5, t6, t7, t8, t9, t10, t11, t12, t13, t14, t15, t16, t17, t18, t19, t20, t21, t22, t23, rfl⟩
    have HKD : Hid (KeepsOthers W W.drew) := KeepsOthers.drew W
    have HID := Lib.hid (hI.gr (Gr.drew W))
    have HBD : Hid (Below w.heap.size W W.drew) := (Below.refl _ _).drew
    clear hI
    gi_wp2
    have HC : Hid (Gr W.drew W.drew) := Gr.refl _
    have x1 : IntKind.i64.wrap (B + (x : Int)) = B + (x : Int) := IntWalk.i64_in _ (by omega)
    have HG := Lib.hid hG
    obtain ⟨v, hv, hown⟩ := HID.out.lv
    obtain ⟨al, cl2, rfl, _, _⟩ := (own_rd hown).shape
    have HBX : Hid (Boxed W.drew (w.heap.size + 1) 22 (.slice al xs.length cl2)) := hv
    have HROW := Lib.hid hown
    have hlow := HID.out.low.size
    obtain ⟨N, hN⟩ : ∃ N, N = xs.length := ⟨_, rfl⟩
    have HN := Lib.hid hN
    rw [← hN] at HBX HROW
    clear hv hown hG hN
    refine wp_region_GR 8 Gr (by kernel_rfl) (by kernel_rfl) (by rintro ⟨_, _, h⟩; exact h) ?_
    generalize W.drew = wc at HC HKD HID HBD HBX HROW hlow ⊢
    -- 0: slot 14
    refine wpG_take preGr (i := 0) (v := ?_) (by kernel_rfl) (some 14) (by kernel_rfl) rfl (by kernel_rfl) (by kernel_rfl) (by kernel_rfl) (fun _ _ _ h => h) (by rfl) (fun w' hw' => ?_) rfl ?_
    rotate_left
    · try (have kp : w'.cell? ⟨w.heap.size, 0, none⟩ = some (.pointer (some ⟨g, 0, none⟩)) := by rw [cell_of_row _ _ _ _ _ _ (heap_gr hw' HID.out.pv)]; rfl)
      try (have k0 := (cells3' (heap_gr hw' (heap_below HROW0.out HID.out.low))).1)
      try (have kx := cell_gr hw' HBX.out.cell)
      go_simp
      with_reducible rfl
    simp only [Act.put, List.setIfInBounds_toArray, List.set_cons_zero, List.set_cons_succ]
    -- 1: slot 15
    refine wpG_take preGr (i := 1) (v := ?_) (by kernel_rfl) (some 15) (by kernel_rfl) rfl (by kernel_rfl) (by kernel_rfl) (by kernel_rfl) (fun _ _ _ h => h) (by rfl) (fun w' hw' => ?_) rfl ?_
    rotate_left
    · try (have kp : w'.cell? ⟨w.heap.size, 0, none⟩ = some (.pointer (some ⟨g, 0, none⟩)) := by rw [cell_of_row _ _ _ _ _ _ (heap_gr hw' HID.out.pv)]; rfl)
      try (have k0 := (cells3' (heap_gr hw' (heap_below HROW0.out HID.out.low))).1)
      try (have kx := cell_gr hw' HBX.out.cell)
      go_simp
      with_reducible rfl
    simp only [Act.put, List.setIfInBounds_toArray, List.set_cons_zero, List.set_cons_succ]
    -- 2: slot 16
    refine wpG_take preGr (i := 2) (v := ?_) (by kernel_rfl) (some 16) (by kernel_rfl) rfl (by kernel_rfl) (by kernel_rfl) (by kernel_rfl) (fun _ _ _ h => h) (by rfl) (fun w' hw' => ?_) rfl ?_
    rotate_left
    · try (have kp : w'.cell? ⟨w.heap.size, 0, none⟩ = some (.pointer (some ⟨g, 0, none⟩)) := by rw [cell_of_row _ _ _ _ _ _ (heap_gr hw' HID.out.pv)]; rfl)
      try (have k0 := (cells3' (heap_gr hw' (heap_below HROW0.out HID.out.low))).1)
      try (have kx := cell_gr hw' HBX.out.cell)
      go_simp
      with_reducible rfl
    simp only [Act.put, List.setIfInBounds_toArray, List.set_cons_zero, List.set_cons_succ]
    -- 3: slot 17
    refine wpG_take preGr (i := 3) (v := ?_) (by kernel_rfl) (some 17) (by kernel_rfl) rfl (by kernel_rfl) (by kernel_rfl) (by kernel_rfl) (fun _ _ _ h => h) (by rfl) (fun w' hw' => ?_) rfl ?_
    rotate_left
    · try (have kp : w'.cell? ⟨w.heap.size, 0, none⟩ = some (.pointer (some ⟨g, 0, none⟩)) := by rw [cell_of_row _ _ _ _ _ _ (heap_gr hw' HID.out.pv)]; rfl)
      try (have k0 := (cells3' (heap_gr hw' (heap_below HROW0.out HID.out.low))).1)
      try (have kx := cell_gr hw' HBX.out.cell)
      go_simp
      with_reducible rfl
    simp only [Act.put, List.setIfInBounds_toArray, List.set_cons_zero, List.set_cons_succ]
    -- 4: slot 18
    refine wpG_take preGr (i := 4) (v := ?_) (by kernel_rfl) (some 18) (by kernel_rfl) rfl (by kernel_rfl) (by kernel_rfl) (by kernel_rfl) (fun _ _ _ h => h) (by rfl) (fun w' hw' => ?_) rfl ?_
    rotate_left
    · try (have kp : w'.cell? ⟨w.heap.size, 0, none⟩ = some (.pointer (some ⟨g, 0, none⟩)) := by rw [cell_of_row _ _ _ _ _ _ (heap_gr hw' HID.out.pv)]; rfl)
      try (have k0 := (cells3' (heap_gr hw' (heap_below HROW0.out HID.out.low))).1)
      try (have kx := cell_gr hw' HBX.out.cell)
      go_simp
      with_reducible rfl
    simp only [Act.put, List.setIfInBounds_toArray, List.set_cons_zero, List.set_cons_succ]
    -- 5: slot 19
    refine wpG_take preGr (i := 5) (v := ?_) (by kernel_rfl) (some 19) (by kernel_rfl) rfl (by kernel_rfl) (by kernel_rfl) (by kernel_rfl) (fun _ _ _ h => h) (by rfl) (fun w' hw' => ?_) rfl ?_
    rotate_left
    · try (have kp : w'.cell? ⟨w.heap.size, 0, none⟩ = some (.pointer (some ⟨g, 0, none⟩)) := by rw [cell_of_row _ _ _ _ _ _ (heap_gr hw' HID.out.pv)]; rfl)
      try (have k0 := (cells3' (heap_gr hw' (heap_below HROW0.out HID.out.low))).1)
      try (have kx := cell_gr hw' HBX.out.cell)
      go_simp
      with_reducible rfl
    simp only [Act.put, List.setIfInBounds_toArray, List.set_cons_zero, List.set_cons_succ]
    -- 6: slot 20
    refine wpG_take preGr (i := 6) (v := ?_) (by kernel_rfl) (some 20) (by kernel_rfl) rfl (by kernel_rfl) (by kernel_rfl) (by kernel_rfl) (fun _ _ _ h => h) (by rfl) (fun w' hw' => ?_) rfl ?_
    rotate_left
    · try (have kp : w'.cell? ⟨w.heap.size, 0, none⟩ = some (.pointer (some ⟨g, 0, none⟩)) := by rw [cell_of_row _ _ _ _ _ _ (heap_gr hw' HID.out.pv)]; rfl)
      try (have k0 := (cells3' (heap_gr hw' (heap_below HROW0.out HID.out.low))).1)
      try (have kx := cell_gr hw' HBX.out.cell)
      go_simp
      with_reducible rfl
    simp only [Act.put, List.setIfInBounds_toArray, List.set_cons_zero, List.set_cons_succ]
    refine wpG_one (i := 7) rfl (by kernel_rfl) (by rfl) ?_
    go_simp
    refine ⟨(Gr.refl _).alloc _, ?_⟩
    try simp only [Act.put, List.setIfInBounds_toArray, List.set_cons_zero, List.set_cons_succ]
    refine wpG_tail (i := 8) (by decide) rfl (by kernel_rfl) (by rfl) ?_
    refine wp_append_gr _ (some 22) (.tmp 14) (.tmp 21) 22 rfl w.heap.size 3 i0 (.int .i64 0) 1 8 Tryd.underlying22 hi hz0 hz1 hz2 rfl (by decide) _ _ _ rfl (World.ownsRow.alloc HROW.out _) _ 1 [.int .i64 (B + (x : Int))] rfl (rd_new wc [.int .i64 (B + (x : Int))] 3 1 1 rfl (by unfold maxLen; omega)) (one_int _) (by have := HG.out; have := HN.out; omega) (by decide) (by simp; omega) rfl ?_
    intro v' w1 hown' hgrow
    obtain ⟨g', cap', rfl⟩ := ownsRow_succ hown'
    obtain ⟨hv1, hv2, hr2, hk2, hb2⟩ := HBX.out.appended (by decide) HROW.out hlow (by omega) hown' hgrow
    have hc1 := hv1.cell
    have hf1 := hv1.frozen
    have HV2 := Lib.hid hv2
    have HR2 := Lib.hid hr2
    have HK2 := Lib.hid hk2
    have HB22 := Lib.hid hb2
    have hpv : Boxed wc w.heap.size 27 (.pointer (some ⟨g, 0, none⟩)) := HID.out.pv
    have HPV1 := Lib.hid ((hpv.alloc _).kept hgrow (hpv.not_row (by decide) HROW.out))
    clear hv1 hv2 hr2 hk2 hb2 hown' hgrow hpv
    try simp only [Act.put, List.setIfInBounds_toArray, List.set_cons_zero, List.set_cons_succ]
    refine wpG_tail (i := 9) (by decide) rfl (by kernel_rfl) (by rfl) ?_
    go_simp
    try simp only [Act.put, List.setIfInBounds_toArray, List.set_cons_zero, List.set_cons_succ]
    refine wpG_done (by kernel_rfl) ?_ _
    have hpn : (w1.setCell ⟨w.heap.size + 1, 0, none⟩ (.slice (some ⟨g', 0, none⟩) (N + 1) cap')).heap[w.heap.size]? = some (.cells #[.pointer (some ⟨g, 0, none⟩)] 27 (0, 0)) := (heap_setCell_other _ _ _ _ (show w.heap.size ≠ w.heap.size + 1 by omega)).trans HPV1.out
    refine ⟨(HKD.out.trans HK2.out).from _, HBD.out.trans HB22.out, ⟨by rw [List.length_append]; have := HG.out; simp; omega, HID.out.low.trans HB22.out, hpn, _, HV2.out, ?_⟩⟩
    have hr := HR2.out
    rw [List.map_append, List.length_append, ← HN.out]
    have e : ints (xs.map fun i : Nat => B + (i : Int)) ++ [.int .i64 (B + (x : Int))] = ints ((xs.map fun i : Nat => B + (i : Int)) ++ [x].map fun i : Nat => B + (i : Int)) := by simp [ints]
    rw [← e]
    exact hr
  case done =>
    intro D xs W hD hS hI hK
    obtain ⟨v, hv, hown⟩ := hI.lv
    obtain ⟨al, cl2, rfl, _, _⟩ := (own_rd hown).shape
    have bl2 : Boxed W (w.heap.size + 1) 22 (.slice al xs.length cl2) := hv
    have HI := Lib.hid hI
    have HO := Lib.hid hown
    have hcl := bl2.cell
    have HS : Hid (xs.map (fun i : Nat => B + (i : Int)) = S.L) := by show _ = _; rw [hS, HEL.out, HBE.out]; exact leased_map HH.out.ok
    have HSL : Hid (xs.length = S.L.length) := by show _ = _; rw [← HS.out, List.length_map]
    have HKK := Lib.hid hK
    clear hI hown hv bl2 hK hS
    gi_wp2
    refine ⟨by simp, .inl ⟨_, _, rfl, run_takeDeferred HKK.out, ?_⟩⟩
    refine ⟨_, results_tmp rfl _ _ _, _, rfl, ?_, turns_below hle4 _ D _ (.deferred none) HI.out.low hD HKK.out rfl⟩
    have := turns_row (B := w4.heap.size) _ D _ (.deferred none) HO.out hD HKK.out rfl
    rw [HS.out] at this
    rw [← HSL.out]
    exact this
  case stop =>
    intro D xs W hD hX hK
    exact hX.elim
end Go.Proofs.YtoemghinolekgaaDoor.Pl
