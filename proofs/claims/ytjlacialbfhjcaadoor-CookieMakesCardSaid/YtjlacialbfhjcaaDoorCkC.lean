/-
  A client's cookie: its bytes in new memory.
-/
import Derived.Test.YtjlacialbfhjcaaDoorCkB
import Derived.Test.YtjlacialbfhjcaaDoorMacD
namespace Go.Proofs.YtjlacialbfhjcaaDoor.Ck
open Go.RowKit
set_option linter.unusedVariables false
set_option linter.unusedSimpArgs false

theorem mac_one {mac : List UInt8} {vs : List Value} (h : mac.map u8v = vs) : ∀ u ∈ vs, u.oneCell' = true := by
  subst h; exact oneCell_u8 mac
theorem mac_six {mac : List UInt8} {v0 v1 v2 v3 v4 v5 : Value} (h : mac.map u8v = [v0, v1, v2, v3, v4, v5]) : mac.length = 6 := by
  have := congrArg List.length h
  simpa using this
/-- An address within a block of eight cells, read as a slice. -/
theorem rd_six {w : World} {g : Nat} {a b v0 v1 v2 v3 v4 v5 : Value} {t : TypeId} {fr : Nat × Nat} (h : w.heap[g]? = some (.cells #[a, v0, v1, v2, v3, v4, v5, b] t fr)) : Rd w 1 (.slice (some ⟨g, 1, none⟩) 6 6) 6 [v0, v1, v2, v3, v4, v5] := by
  refine ⟨rfl, _, 6, rfl, Nat.le_refl _, by decide, (fun h => by cases h), fun ad had j u hu => ?_⟩
  obtain rfl := Option.some.inj had
  rw [Addr.add_lit, cell_of_row _ _ _ _ _ _ h]
  match j, hu with
  | 0, hu | 1, hu | 2, hu | 3, hu | 4, hu | 5, hu => simpa using hu
  | j + 6, hu => simp at hu
theorem slM (g o : Nat) (w' : World) : (Instr.sliceAt 26 (.pointer (some ⟨g, o, none⟩)) none none none).run Tryd.prog w' = .ok (.slice (some ⟨g, o, none⟩) 6 6) w' := by
  rw [run_sliceAt_array_all w' 26 ⟨g, o, none⟩ (by kernel_rfl)]; rfl
theorem sl32 (g : Nat) (w' : World) : (Instr.sliceAt 56 (.pointer (some ⟨g, 0, none⟩)) none none none).run Tryd.prog w' = .ok (.slice (some ⟨g, 0, none⟩) 32 32) w' := by
  rw [run_sliceAt_array_all w' 56 ⟨g, 0, none⟩ (by kernel_rfl)]; rfl
theorem own_row {w : World} {g base : Nat} {cs : List Value} {t : TypeId} (h : w.heap[g]? = some (.cells cs.toArray t (0, 0))) (n : Nat) (hn : cs.length = n) (hb : base ≤ g) (hm : n ≤ maxLen) : w.ownsRow base t 1 (.slice (some ⟨g, 0, none⟩) n n) n cs :=
  ⟨by omega, .inr ⟨g, n, cs.toArray, rfl, hb, h, Nat.le_refl _, hm, by simp [hn], by simp [← hn]⟩⟩
theorem labE_is : (⟨#[101, 112, 111, 99, 104]⟩ : ByteArray).data.toList = labE := rfl
/-- The message, in rows. -/
theorem msg_rows (mac uniq : List UInt8) (n : Int) : [mac, putL uniq.length 2, uniq, putL n.toNat 8].flatten = msgL mac uniq n := by
  simp [msgL]
set_option maxRecDepth 20000 in
set_option maxHeartbeats 2000000 in
theorem cookie_any (ak : Option Addr) (nk ck : Nat) (sec : List UInt8) (hn : sec.length = nk) (au : Option Addr) (nu cu : Nat) (uniq : List UInt8) (hu : uniq.length = nu) (v0 v1 v2 v3 v4 v5 : Value) (mac : List UInt8) (hm : mac.map u8v = [v0, v1, v2, v3, v4, v5])
    (n : Int) (hn0 : 0 ≤ n) (hn1 : n ≤ 1099511627776) (w : World) (hL : Laid w) (hk : Bs w (.slice ak nk ck) sec) (hq : Bs w (.slice au nu cu) uniq) (hsl : sec.length ≤ 100000) (hul : uniq.length ≤ 1494) :
    Calls Tryd.prog 19 #[.agg #[.slice ak nk ck, v0, v1, v2, v3, v4, v5, .slice au nu cu], .int .i64 n] w fun e w' => ∃ g, e = .returned (.slice (some ⟨g, 0, none⟩) 32 32) ∧ OwnB w' w.heap.size 56 (.slice (some ⟨g, 0, none⟩) 32 32) (cookL sec mac uniq n) ∧ Below w.heap.size w w' := by
  obtain ⟨N, rfl⟩ : ∃ N : Nat, n = (N : Int) := ⟨n.toNat, by omega⟩
  have HN := Lib.hid hn
  have HU := Lib.hid hu
  have HM := Lib.hid hm
  have HM6 := Lib.hid (mac_six hm)
  have HK := Lib.hid hk
  have HQ := Lib.hid hq
  have HLD := Lib.hid hL
  have hc7 := hq.shape
  have HB1 : Hid (Below w.heap.size w (w.alloc (.cells #[.slice ak nk ck, v0, v1, v2, v3, v4, v5, .slice au nu cu] 48))) := (Below.refl _ _).alloc (Nat.le_refl _) _
  have HG1 : Hid ((w.alloc (.cells #[.slice ak nk ck, v0, v1, v2, v3, v4, v5, .slice au nu cu] 48)).heap[w.heap.size]? = some (.cells #[.slice ak nk ck, v0, v1, v2, v3, v4, v5, .slice au nu cu] 48 (0, 0))) := heap_alloc_last _ _
  have e1 : IntKind.u64.wrap (nu : Int) = (nu : Int) := by rw [IntKind.wrap_u64]; omega
  have e2 : IntKind.u64.wrap (N : Int) = (N : Int) := by rw [IntKind.wrap_u64]; omega
  have hs1 := slM
  have hs2 := sl32
  have hnu : nu ≤ 1494 := by omega
  have hN1 : N ≤ 1099511627776 := by omega
  have hsl' : sec.length ≤ 100000 := hsl
  clear hn hu hm hk hq hL hc7 hn0 hn1 hul
  go_enter Tryd.func19, Tryd.ntmps19
  go_wp2_with fail
  generalize w.alloc (.cells #[.slice ak nk ck, v0, v1, v2, v3, v4, v5, .slice au nu cu] 48) = w1 at HB1 HG1 ⊢
  refine wp_region_G 15 Gr (by kernel_rfl) ?_
  -- 0: slot 7
  refine wpG_take preGr (i := 0) (v := ?_) (by kernel_rfl) (some 7) (by kernel_rfl) rfl (by kernel_rfl) (by kernel_rfl) (by kernel_rfl) (fun _ _ _ h => h) (by rfl) (fun w' hw' => ?_) rfl ?_
  rotate_left
  · have k := cells8 (heap_below HG1.out ((Gr.drew w1).trans hw'))
    obtain ⟨k0, _, _, _, _, _, _, k7⟩ := k
    go_simp
    with_reducible rfl
  simp only [Act.put, List.setIfInBounds_toArray, List.set_cons_zero, List.set_cons_succ]
  -- 1: slot 8
  refine wpG_take preGr (i := 1) (v := ?_) (by kernel_rfl) (some 8) (by kernel_rfl) rfl (by kernel_rfl) (by kernel_rfl) (by kernel_rfl) (fun _ _ _ h => h) (by rfl) (fun w' hw' => ?_) rfl ?_
  rotate_left
  · have k := cells8 (heap_below HG1.out ((Gr.drew w1).trans hw'))
    obtain ⟨k0, _, _, _, _, _, _, k7⟩ := k
    go_simp
    with_reducible rfl
  simp only [Act.put, List.setIfInBounds_toArray, List.set_cons_zero, List.set_cons_succ]
  -- 2: slot 9
  refine wpG_take preGr (i := 2) (v := ?_) (by kernel_rfl) (some 9) (by kernel_rfl) rfl (by kernel_rfl) (by kernel_rfl) (by kernel_rfl) (fun _ _ _ h => h) (by rfl) (fun w' hw' => ?_) rfl ?_
  rotate_left
  · have k := cells8 (heap_below HG1.out ((Gr.drew w1).trans hw'))
    obtain ⟨k0, _, _, _, _, _, _, k7⟩ := k
    go_simp
    with_reducible rfl
  simp only [Act.put, List.setIfInBounds_toArray, List.set_cons_zero, List.set_cons_succ]
  -- 3: slot 10
  refine wpG_take preGr (i := 3) (v := ?_) (by kernel_rfl) (some 10) (by kernel_rfl) rfl (by kernel_rfl) (by kernel_rfl) (by kernel_rfl) (fun _ _ _ h => h) (by rfl) (fun w' hw' => ?_) rfl ?_
  rotate_left
  · have k := cells8 (heap_below HG1.out ((Gr.drew w1).trans hw'))
    obtain ⟨k0, _, _, _, _, _, _, k7⟩ := k
    go_simp
    with_reducible rfl
  simp only [Act.put, List.setIfInBounds_toArray, List.set_cons_zero, List.set_cons_succ]
  -- 4: slot 11
  refine wpG_take preGr (i := 4) (v := ?_) (by kernel_rfl) (some 11) (by kernel_rfl) rfl (by kernel_rfl) (by kernel_rfl) (by kernel_rfl) (fun _ _ _ h => h) (by rfl) (fun w' hw' => ?_) rfl ?_
  rotate_left
  · have k := cells8 (heap_below HG1.out ((Gr.drew w1).trans hw'))
    obtain ⟨k0, _, _, _, _, _, _, k7⟩ := k
    go_simp
    with_reducible rfl
  simp only [Act.put, List.setIfInBounds_toArray, List.set_cons_zero, List.set_cons_succ]
  -- 5: slot 12
  refine wpG_take preGr (i := 5) (v := ?_) (by kernel_rfl) (some 12) (by kernel_rfl) rfl (by kernel_rfl) (by kernel_rfl) (by kernel_rfl) (fun _ _ _ h => h) (by rfl) (fun w' hw' => ?_) rfl ?_
  rotate_left
  · have k := cells8 (heap_below HG1.out ((Gr.drew w1).trans hw'))
    obtain ⟨k0, _, _, _, _, _, _, k7⟩ := k
    go_simp
    with_reducible rfl
  simp only [Act.put, List.setIfInBounds_toArray, List.set_cons_zero, List.set_cons_succ]
  -- 7: slot 14
  refine wpG_take preGr (i := 7) (v := ?_) (by kernel_rfl) (some 14) (by kernel_rfl) rfl (by kernel_rfl) (by kernel_rfl) (by kernel_rfl) (fun _ _ _ h => h) (by rfl) (fun w' hw' => ?_) rfl ?_
  rotate_left
  · have k := cells8 (heap_below HG1.out ((Gr.drew w1).trans hw'))
    obtain ⟨k0, _, _, _, _, _, _, k7⟩ := k
    go_simp
    with_reducible rfl
  simp only [Act.put, List.setIfInBounds_toArray, List.set_cons_zero, List.set_cons_succ]
  -- 8: slot 15
  refine wpG_take preGr (i := 8) (v := ?_) (by kernel_rfl) (some 15) (by kernel_rfl) rfl (by kernel_rfl) (by kernel_rfl) (by kernel_rfl) (fun _ _ _ h => h) (by rfl) (fun w' hw' => ?_) rfl ?_
  rotate_left
  · have k := cells8 (heap_below HG1.out ((Gr.drew w1).trans hw'))
    obtain ⟨k0, _, _, _, _, _, _, k7⟩ := k
    go_simp
    with_reducible rfl
  simp only [Act.put, List.setIfInBounds_toArray, List.set_cons_zero, List.set_cons_succ]
  -- 9: slot 16
  refine wpG_take preGr (i := 9) (v := ?_) (by kernel_rfl) (some 16) (by kernel_rfl) rfl (by kernel_rfl) (by kernel_rfl) (by kernel_rfl) (fun _ _ _ h => h) (by rfl) (fun w' hw' => ?_) rfl ?_
  rotate_left
  · have k := cells8 (heap_below HG1.out ((Gr.drew w1).trans hw'))
    obtain ⟨k0, _, _, _, _, _, _, k7⟩ := k
    go_simp
    with_reducible rfl
  simp only [Act.put, List.setIfInBounds_toArray, List.set_cons_zero, List.set_cons_succ]
  -- 10: slot 17
  refine wpG_take preGr (i := 10) (v := ?_) (by kernel_rfl) (some 17) (by kernel_rfl) rfl (by kernel_rfl) (by kernel_rfl) (by kernel_rfl) (fun _ _ _ h => h) (by rfl) (fun w' hw' => ?_) rfl ?_
  rotate_left
  · have k := cells8 (heap_below HG1.out ((Gr.drew w1).trans hw'))
    obtain ⟨k0, _, _, _, _, _, _, k7⟩ := k
    go_simp
    with_reducible rfl
  simp only [Act.put, List.setIfInBounds_toArray, List.set_cons_zero, List.set_cons_succ]
  refine wpG_one (i := 6) rfl (by kernel_rfl) (by rfl) ?_
  go_simp
  refine (put_yes nu 2 _ (by omega) (by omega) (by omega)).mono ?_
  rintro e w2 ⟨x2, rfl, hx2, hg2⟩
  refine ⟨hg2, ?_⟩
  obtain ⟨A2, L2, C2, ev, hL2, _, _⟩ := hx2.bs.sl
  rw [putL_length] at hL2
  subst hL2 ev
  have X2 := Lib.hid hx2.bs
  have G2 : Hid (Gr w1 w2) := (Gr.drew w1).trans hg2
  clear hx2 hg2
  try simp only [Act.put, List.setIfInBounds_toArray, List.set_cons_zero, List.set_cons_succ]
  refine wpG_one (i := 11) rfl (by kernel_rfl) (by rfl) ?_
  go_simp
  refine (put_yes N 8 _ (by omega) (by omega) (by omega)).mono ?_
  rintro e w3 ⟨x3, rfl, hx3, hg3⟩
  refine ⟨hg3, ?_⟩
  obtain ⟨A3, L3, C3, ev, hL3, _, _⟩ := hx3.bs.sl
  rw [putL_length] at hL3
  subst hL3 ev
  have X3 := Lib.hid hx3.bs
  have X2' := Lib.hid (X2.out.below hg3)
  have G3 : Hid (Gr w1 w3) := Gr.trans G2.out hg3
  clear hx3 hg3 X2 G2
  try simp only [Act.put, List.setIfInBounds_toArray, List.set_cons_zero, List.set_cons_succ]
  refine wpG_one (i := 12) rfl (by kernel_rfl) (by rfl) ?_
  go_simp
  refine ⟨Gr.alloc (Gr.refl _) _, ?_⟩
  have G4 : Hid (Gr w1 (w3.alloc (.cells #[.slice (some ⟨w.heap.size, 1, none⟩) 6 6, .slice A2 2 C2, .slice au nu cu, .slice A3 8 C3] 22))) := G3.out.alloc _
  have RV : Hid (Rd (w3.alloc (.cells #[.slice (some ⟨w.heap.size, 1, none⟩) 6 6, .slice A2 2 C2, .slice au nu cu, .slice A3 8 C3] 22)) 1 (.slice (some ⟨w3.heap.size, 0, none⟩) 4 4) 4 [.slice (some ⟨w.heap.size, 1, none⟩) 6 6, .slice A2 2 C2, .slice au nu cu, .slice A3 8 C3]) := rd_new w3 [.slice (some ⟨w.heap.size, 1, none⟩) 6 6, .slice A2 2 C2, .slice au nu cu, .slice A3 8 C3] 22 4 1 rfl (by decide)
  have RA : Hid (RowsAt (w3.alloc (.cells #[.slice (some ⟨w.heap.size, 1, none⟩) 6 6, .slice A2 2 C2, .slice au nu cu, .slice A3 8 C3] 22)) [.slice (some ⟨w.heap.size, 1, none⟩) 6 6, .slice A2 2 C2, .slice au nu cu, .slice A3 8 C3] [mac, putL nu 2, uniq, putL N 8]) := by
    have q0 : Bs w3 (.slice (some ⟨w.heap.size, 1, none⟩) 6 6) mac := by
      have := rd_six (heap_below HG1.out G3.out)
      unfold Bs
      rw [HM6.out, HM.out]
      exact this
    have q2 : Bs w3 (.slice au nu cu) uniq := HQ.out.below (HB1.out.trans (G3.out.mono HB1.out.size))
    refine RowsAt.below (w := w3) ⟨rfl, fun i hi hi' => ?_⟩ (Gr.alloc (Gr.refl _) _)
    match i, hi with
    | 0, _ => exact q0
    | 1, _ => exact X2'.out
    | 2, _ => exact q2
    | 3, _ => exact X3.out
    | i + 4, hi => exact absurd hi (by simp)
  try simp only [Act.put, List.setIfInBounds_toArray, List.set_cons_zero, List.set_cons_succ]
  refine wpG_one (i := 13) rfl (by kernel_rfl) (by rfl) ?_
  go_simp
  refine (concat_any _ 4 4 _ _ _ RV.out RA.out (by have h1 := HM6.out; have h2 := HU.out; simp [putL_length, h1]; omega)).mono ?_
  rintro e w5 ⟨a5, c5, rfl, ho5, hg5⟩
  refine ⟨hg5, ?_⟩
  obtain ⟨msg, hmsg⟩ : ∃ msg, msg = msgL mac uniq (N : Int) := ⟨_, rfl⟩
  have hfl : [mac, putL nu 2, uniq, putL N 8].flatten = msg := by
    rw [hmsg, ← msg_rows, HU.out]; rfl
  rw [hfl] at ho5 ⊢
  have HMSG := Lib.hid hmsg
  obtain ⟨L5, hL5⟩ : ∃ L, L = msg.length := ⟨_, rfl⟩
  have HL5 : Hid (msg.length = L5) := hL5.symm
  have HLE : Hid (msg.length ≤ 2000) := by
    show _ ≤ _
    rw [hmsg, msgL_length mac uniq _ HM6.out, HU.out]; omega
  rw [← hL5] at ho5 ⊢
  have X5 := Lib.hid ho5.bs
  have G5 : Hid (Gr w1 w5) := Gr.trans G4.out hg5
  clear ho5 hg5 hmsg hfl hL5 RV RA X2' X3 G3 G4
  try simp only [Act.put, List.setIfInBounds_toArray, List.set_cons_zero, List.set_cons_succ]
  -- 14: slot 5
  refine wpG_take preGr (i := 14) (v := ?_) (by kernel_rfl) (some 5) (by kernel_rfl) rfl (by kernel_rfl) (by kernel_rfl) (by kernel_rfl) (fun _ _ _ h => h) (by rfl) (fun w' hw' => ?_) rfl ?_
  rotate_left
  · go_simp
    with_reducible rfl
  simp only [Act.put, List.setIfInBounds_toArray, List.set_cons_zero, List.set_cons_succ]
  refine wpG_done (by kernel_rfl) ?_ _
  have HG5 := heap_below HG1.out G5.out
  have k0 := (cells8 HG5).1
  have HB5 : Hid (Below w.heap.size w w5) := HB1.out.trans (G5.out.mono HB1.out.size)
  clear HG5 HB1 HG1 G5
  go_wp2_with fail
  refine (derive_any ak nk ck sec HN.out ⟨#[101, 112, 111, 99, 104]⟩ (N : Int) w5 (HK.out.below HB5.out) (HLD.out.below HB5.out) (by omega) (by decide)).mono ?_
  rintro e w6 ⟨g6, rfl, hv6, hb6⟩
  rw [labE_is] at hv6
  have X6 := Lib.hid (X5.out.below hb6)
  have HB6 := Lib.hid (HB5.out.trans (hb6.mono HB5.out.size))
  have V6 := Lib.hid hv6
  clear hb6 hv6 k0 X5 HB5
  go_wp2_with fail
  refine (hmac_any (some ⟨g6, 0, none⟩) 32 32 _ (hmacL_length _ _) a5 L5 c5 msg HL5.out w6 V6.out X6.out (HLD.out.below HB6.out) (by rw [hmacL_length]; decide) (by have := HLE.out; omega)).mono ?_
  rintro e w7 ⟨rfl, hb7⟩
  have HB7 := Lib.hid (HB6.out.trans (hb7.mono HB6.out.size))
  obtain ⟨y, hy⟩ : ∃ y, y = cookL sec mac uniq (N : Int) := ⟨_, rfl⟩
  have hye : hmacL (hmacL sec (labelL labE (N : Int))) msg = y := by rw [hy, HMSG.out]; rfl
  rw [hye]
  have HY := Lib.hid hy
  have HYL : Hid (y.length = 32) := by show _ = _; rw [hy]; exact cookL_length _ _ _ _
  clear hb7 hy hye V6 X6 HB6
  go_wp2_with (with_reducible refine wpList_store_row rfl 56 (.tmp 6) (.tmp 26) rfl w7.heap.size _ rfl rfl 56 z32 (heap_alloc_last _ _) ?a1 ?a2 ?a3 ?_)
  case a1 => exact size32l _ HYL.out
  case a2 => show z32.size = (y.map u8v).length; rw [List.length_map, HYL.out]; rfl
  case a3 => exact all_oneCell_toArray (oneCell_u8 _)
  intro w8 h1 h2 _
  have HB8 := Lib.hid (h2 _ _ HB7.out.size (HB7.out.alloc HB7.out.size _))
  have HV : Hid (OwnB w8 w.heap.size 56 (.slice (some ⟨w7.heap.size, 0, none⟩) 32 32) y) := by
    show OwnB _ _ _ _ _
    unfold OwnB
    rw [HYL.out]
    exact own_row (cs := y.map u8v) h1 32 (by rw [List.length_map]; exact HYL.out) HB7.out.size (by decide)
  clear h1 h2
  go_wp2
  go_ret
  refine ⟨_, rfl, ?_, HB8.out⟩
  rw [← HY.out]
  exact HV.out
end Go.Proofs.YtjlacialbfhjcaaDoor.Ck
