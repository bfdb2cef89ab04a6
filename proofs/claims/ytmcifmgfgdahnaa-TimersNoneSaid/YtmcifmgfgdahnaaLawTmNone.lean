/-
  Where what is due is asked tick by tick each timer is told once, at its tick (conciergelaw13.TimersNone answers true). No condition.
-/
import Derived.Test.YtmcifmgfgdahnaaTmS
import Derived.Test.YtmcifmgfgdahnaaMake
import Derived.Test.YtmcifmgfgdahnaaOpen
import Derived.ProofKit
import Derived.OpenShut
import Derived.ChangeOld
import Derived.Deep.DeepCutAuto
import Derived.Deep.CutBlock
namespace Go.Proofs.Ytmcifmgfgdahnaa.timersNone
open Go.ChangeShapes Go.WideShapes Go.ChangeAt Go.RowKit
open Go.Proofs.Ytmcifmgfgdahnaa.Tm
open Go.Proofs.Ytmcifmgfgdahnaa.Id (Tr RR)
set_option linter.unusedVariables false
set_option linter.unusedSimpArgs false

theorem byte_at {W : World} {a : Option Addr} {n c : Nat} {l : List UInt8} (hl : l.length = n) (h : Bs W (.slice a n c) l) {i : Nat} (hi : i < n) :
    ∃ b o X, a = some ⟨b, o, none⟩ ∧ W.cell? ⟨b, o + i, none⟩ = some (.int .u8 (X : Int)) ∧ 0 ≤ X ∧ X ≤ 255 ∧ tickOf l i = 1 + X := by
  obtain ⟨b, o, h1, _, h3⟩ := Bs.cells h (by omega)
  have hil : i < l.length := by omega
  have := l[i].toNat_lt
  refine ⟨b, o, (l[i].toNat : Int), h1, h3 i hil, by omega, by omega, ?_⟩
  unfold tickOf
  simp [List.getD, hil]
set_option maxRecDepth 20000 in
set_option maxHeartbeats 8000000 in
theorem walk (W : World) (a0 : Option Addr) (n0 c0 : Nat) (l0 : List UInt8) (hn0 : l0.length = n0) (b0 : Bs W (.slice a0 n0 c0) l0) (s1 : Int) (v1 : (Lit.int .u8 s1).wf = true) :
    Calls Try.prog 4 #[.slice a0 n0 c0, .int .u8 s1] W fun e w' => e = .returned (.bool true) ∧ Below W.heap.size W w' := by
  obtain ⟨i1, hi1, hy0, hy1, hy2⟩ := info_parts infoBool
  have hs : 0 ≤ s1 ∧ s1 ≤ 255 := by simpa [Lit.wf, IntKind.min, IntKind.max, IntKind.signed, IntKind.bits] using v1
  obtain ⟨BY, hBY⟩ : ∃ BY, 1 + s1 % 5 = BY := ⟨_, rfl⟩
  obtain ⟨LIM, hLIM⟩ : ∃ LIM, 256 + BY = LIM := ⟨_, rfl⟩
  have hby : 1 ≤ BY ∧ BY ≤ 5 := by omega
  have HLIM := Lib.hid hLIM
  have X0 : Hid (wrap64 s1 = s1) := wrap64_in (by omega) (by omega)
  have X2 : Hid (s1.tmod 5 = s1 % 5) := Int.tmod_eq_emod_of_nonneg hs.1
  have X3 : Hid (wrap64 (s1 % 5) = s1 % 5) := wrap64_in (by omega) (by omega)
  have X4 : Hid (wrap64 (1 + s1 % 5) = BY) := (wrap64_in (by omega) (by omega)).trans hBY
  have X5 : Hid (wrap64 (256 + BY) = LIM) := (wrap64_in (by omega) (by omega)).trans hLIM
  have HBY := Lib.hid hBY
  have hn63 : (n0 : Int) ≤ 9223372036854775807 := by
    obtain ⟨_, _, es0, hc0, hm0⟩ := b0.shape
    simp only [Value.slice.injEq] at es0
    obtain ⟨_, _, rfl⟩ := es0
    unfold maxLen at hm0
    omega
  have HN63 := Lib.hid hn63
  have HN0 := Lib.hid hn0
  have HB0 := Lib.hid b0
  have HA := Lib.hid (fun w => awake_any w)
  have HN := Lib.hid (lt_new (Below.refl W.heap.size W))
  have HB2 : Hid (i1.bytes * 80 ≤ 281474976710656) := by show _ ≤ _; rw [hy2]; omega
  have HB3 : Hid (80 ≤ maxLen) := by show _ ≤ _; unfold maxLen; omega
  obtain ⟨M, hM⟩ : ∃ M, M = min n0 80 := ⟨_, rfl⟩
  have HM : Hid (M ≤ n0 ∧ M ≤ 80 ∧ (n0 ≤ M ∨ 80 ≤ M)) := by show _ ∧ _; omega
  clear hn0 b0 v1 hBY hLIM hn63 hM
  go_enter Try.func4, Try.ntmps4
  go_wp2_with fail
  refine HN.out.mono ?_
  rintro e w1 ⟨p, rfl, hl, hb⟩
  have HL1 := Lib.hid hl
  clear hl hb HN
  go_wp2_with fail
  refine (HA.out _).mono ?_
  rintro e w2 ⟨rfl, hb⟩
  have HL2 := Lib.hid (HL1.out.gr hb)
  clear hb HA HL1
  go_upto_block 0 with fail
  go_cut [6] (fun _ wx => ∃ L : List D, Hid (LT W wx p L) ∧ Hid (These l0 M 0 L))
  case first =>
    go_wp2_with fail
    go_loopw [6] (fun iv wr => ∃ (i : Nat) (L : List D), i ≤ n0 ∧ i ≤ 80 ∧ iv = .int .i64 (i : Int) ∧ Hid (LT W wr p L) ∧ Hid (These l0 i 0 L ∧ L.length ≤ i)) (fun iv _ => n0 - (intOf iv).toNat)
    case atStart => exact ⟨0, [], Nat.zero_le _, Nat.zero_le _, rfl, HL2, ⟨These.nil _ _, Nat.zero_le _⟩⟩
    case round =>
      clear HL2
      have h63 := HN63.out
      obtain ⟨i, L, hin, hi80, hiv, HLT, HTH⟩ := hrel
      subst hiv
      by_cases hlt : i < n0
      · by_cases hl80 : i < 80
        · obtain ⟨b, o, X, ea, hc, hX0, hX1, htk⟩ := byte_at HN0.out HB0.out hlt
          subst ea
          have c1 := cell_gr HLT.out.low hc
          have x1 : wrap64 X = X := wrap64_in (by omega) (by omega)
          have x2 : wrap64 (1 + X) = 1 + X := wrap64_in (by omega) (by omega)
          have hok : okD (i : Int) (1 + X) := by unfold okD; omega
          have HS := HLT.out.set (i : Int) (1 + X) (by have := HTH.out.2; omega)
          rw [show setE (i : Int) (1 + X) = 0 from if_pos hok, show setL L (i : Int) (1 + X) = set L ((i : Int), 1 + X) from if_pos hok] at HS
          have HS := Lib.hid HS
          have HTH2 : Hid (These l0 (i + 1) 0 (set L ((i : Int), 1 + X)) ∧ (set L ((i : Int), 1 + X)).length ≤ i + 1) := by
            refine ⟨?_, ?_⟩
            · rw [← htk]; exact HTH.out.1.add
            · have := set_length L ((i : Int), 1 + X); have := HTH.out.2; omega
          have hle : i + 1 ≤ n0 := by omega
          have hle80 : i + 1 ≤ 80 := by omega
          clear hc htk hok HLT HTH
          go_wp2_with fail
          refine HS.out.mono ?_
          rintro e w3 ⟨rfl, hl, _⟩
          have HL3 := Lib.hid hl
          clear hl HS c1 x1 x2
          go_wp2_with fail
          go_roundw
          case rel =>
            first
              | exact ⟨i + 1, _, hle, hle80, by go_num, HL3, HTH2⟩
              | ((repeat apply Exists.intro); exact ⟨⟨i + 1, _, hle, hle80, by go_num, HL3, HTH2⟩, rfl⟩)
          case measure => simp [intOf]; omega
        · have hiM : i = M := by have := HM.out; omega
          have HT : Hid (These l0 M 0 L) := by show These _ _ _ _; rw [← hiM]; exact HTH.out.1
          clear hiM
          go_wp2_with fail
          go_meet
          exact ⟨L, HLT, HT⟩
      · have hiM : i = M := by have := HM.out; omega
        have HT : Hid (These l0 M 0 L) := by show These _ _ _ _; rw [← hiM]; exact HTH.out.1
        clear hiM
        go_wp2_with fail
        go_meet
        exact ⟨L, HLT, HT⟩
  case rest =>
    obtain ⟨L, HLT, HTH⟩ := hcut
    obtain ⟨w3, hw3⟩ : ∃ x, x = wc := ⟨_, rfl⟩
    subst hw3
    clear HL2
    have x0 := X0.out
    have x2 := X2.out
    have x3 := X3.out
    have x4 := X4.out
    go_wp2_with (at_make; refine wpList_make_cap _ rfl _ _ 47 rfl w3.heap.size 4 i1 (.bool false) Try.underlying47 hi1 hy0 hy1 rfl _ _ _ _ 80 80 rfl rfl rfl rfl (Nat.le_refl _) HB2.out HB3.out (Nat.le_refl _) ?_)
    intro w4 ho hb
    obtain ⟨g, hg⟩ : ∃ x, x = w3.heap.size := ⟨_, rfl⟩
    rw [← hg] at ho ⊢
    have HTS : Hid (TS W w4 p g L (told l0 M (0 - BY) [] 0)) := by
      refine ⟨HLT.out.gr hb, ?_, ?_⟩
      · rw [← bt_none l0 M (0 - BY) (by omega) []]
        exact own_full ho
      · rw [hg]; exact HLT.out.low.size
    have HTH4 : Hid (These l0 M (0 - BY) L) := HTH.out.low (Int.le_refl _) (by omega)
    clear ho hb hg HLT HTH x0 x2 x3 x4 X0 X2 X3 X4 HB2 HB3
    go_wp2_with fail
    try rw [HBY.out]
    go_loopw [9] (fun tv wr => ∃ (T : Int) (L : List D), 0 ≤ T ∧ T < LIM + BY ∧ tv = .int .i64 T ∧ Hid (TS W wr p g L (told l0 M (T - BY) [] 0)) ∧ Hid (These l0 M (T - BY) L)) (fun tv _ => (LIM + BY - intOf tv).toNat)
    case atStart => exact ⟨0, L, Int.le_refl _, by have := HLIM.out; omega, rfl, HTS, HTH4⟩
    case round =>
      clear HTS HTH4
      obtain ⟨T, L, hT0, hT1, htv, HTS, HTH⟩ := hrel
      subst htv
      have x5 := X5.out
      have hlim := HLIM.out
      by_cases hlt : T < LIM
      · have HDU := Lib.hid (HTS.out.lt.due T)
        go_wp2_with fail
        refine HDU.out.mono ?_
        rintro e w5 ⟨dv, rfl, hr, hl, hk⟩
        obtain ⟨A, C, hdv⟩ := hr.sl
        subst hdv
        have HTS5 := Lib.hid (HTS.out.go hl hk)
        have hs := HTS.out.lt.srt
        have HDA : Hid (∀ (k : Nat) (hk : k < (Tm.due L T).length), _) := fun k hk => due_at HTH.out hs hk
        have HEND : Hid (told l0 M (T - BY) (Tm.due L T) (Tm.due L T).length = told l0 M T [] 0) := told_end HTH.out hs (by omega) []
        have HTH5 : Hid (These l0 M T (Tm.left L T)) := HTH.out.left hs (by omega)
        have HF0 : Hid (told l0 M (T - BY) [] 0 = told l0 M (T - BY) (Tm.due L T) 0) := by show _ = _; funext j; simp [told]
        obtain ⟨U, hU⟩ : ∃ U, U = Tm.due L T := ⟨_, rfl⟩
        rw [← hU] at hr HDA HEND HF0
        obtain ⟨u, hu⟩ : ∃ u, u = U.length := ⟨_, rfl⟩
        have hUL : (Tm.due L T).length = u := by rw [hu, hU]
        have hu16 : u ≤ 65536 := by
          have h1 := HTS.out.lt.few
          have h2 : (Tm.due L T).length ≤ L.length := (List.takeWhile_sublist _).length_le
          omega
        rw [hUL]
        have hr : Rw w5 40 (.slice A u C) U := by rw [hu]; exact hr
        have HU := Lib.hid hu
        have HR5 := Lib.hid hr
        obtain ⟨L5, hL5⟩ : ∃ L5, L5 = Tm.left L T := ⟨_, rfl⟩
        rw [← hL5] at HTS5 HTH5
        clear hr hl hk hs hU hu hUL hL5 HDU HTS HTH
        have hT63 : T < 266 := by omega
        go_wp2_with fail
        obtain ⟨wo, hwo⟩ : ∃ x, x = wr := ⟨_, rfl⟩
        subst hwo
        have HR6 := HR5
        have HTS6 : Hid (TS W w5 p g L5 (told l0 M (T - BY) U 0)) := by show TS _ _ _ _ _ _; rw [← HF0.out]; exact HTS5.out
        clear HR5 HTS5 HF0
        go_loopw [11] (fun kv wr => ∃ k : Nat, k ≤ u ∧ kv = .int .i64 (k : Int) ∧ Hid (TS W wr p g L5 (told l0 M (T - BY) U k)) ∧ Hid (Rw wr 40 (.slice A u C) U)) (fun kv _ => u - (intOf kv).toNat)
        case atStart => exact ⟨0, Nat.zero_le _, rfl, HTS6, HR6⟩
        case round =>
          clear HTS6 HR6
          obtain ⟨k, hku, hkv, HTS, HRW⟩ := hrel
          subst hkv
          by_cases hlk : k < u
          · have hkl : k < U.length := by rw [← HU.out]; exact hlk
            obtain ⟨j, hj1, hj2, hj3, hj4, hj5⟩ := HDA.out k hkl
            obtain ⟨b1, o1, ea, q0, q1⟩ := cells_at HRW.out.rr HU.out hkl
            subst ea
            have HST : Hid ((bt (told l0 M (T - BY) U k)).set j (.bool true) = bt (told l0 M (T - BY) U (k + 1))) := bt_set hkl (by rw [hj2])
            rw [hj2] at q0 q1
            have hj80 : j < 80 := by have := HM.out; omega
            have hjn : j < n0 := by have := HM.out; omega
            have HTC := HTS.out.cell hj80
            rw [hj5] at HTC
            obtain ⟨b, o, X, ea, hc, hX0, hX1, htk⟩ := byte_at HN0.out HB0.out hjn
            subst ea
            have HLC := cell_gr HTS.out.lt.low hc
            rw [htk] at hj3 hj4 q0 q1
            have HTC := Lib.hid HTC
            have HLC := Lib.hid HLC
            have hle : k + 1 ≤ u := by omega
            clear hj2 hj5 hc htk hkl
            have hb4 : Gr wr (wr.alloc (.cells #[.int .i64 (j : Int), .int .i64 (1 + X)] 40)) := (Below.refl _ _).alloc (Nat.le_refl _) _
            have HTS4 := Lib.hid (HTS.out.gr hb4)
            have HRW4 := Lib.hid (HRW.out.gr hb4)
            have HDD4 : Hid ((wr.alloc (.cells #[.int .i64 (j : Int), .int .i64 (1 + X)] 40)).heap[wr.heap.size]? = some (.cells #[.int .i64 (j : Int), .int .i64 (1 + X)] 40 (0, 0))) := heap_alloc_last _ _
            have HTC4 := Lib.hid (cell_gr hb4 HTC.out)
            have HLC4 := Lib.hid (cell_gr hb4 HLC.out)
            go_upto_region 19 with fail
            generalize (wr.alloc (.cells #[.int .i64 (j : Int), .int .i64 (1 + X)] 40)) = w4 at HTS4 HRW4 HDD4 HTC4 HLC4 ⊢
            obtain ⟨gd, hgd⟩ : ∃ x, x = wr.heap.size := ⟨_, rfl⟩
            rw [← hgd] at HDD4 ⊢
            clear hgd HTC HLC HTS HRW q0 q1 hb4
            have hbT : BY ≤ 5 ∧ 1 ≤ BY := by omega
            have m0 : ¬ (j : Int) < 0 := by omega
            have m1 : ¬ (n0 : Int) ≤ (j : Int) := by omega
            have m2 : ¬ (80 : Int) ≤ (j : Int) := by omega
            have m5 : (j : Int) < 80 := by omega
            have m6 : (j : Int) < (n0 : Int) := by omega
            have m7 : (0 : Int) ≤ (j : Int) := by omega
            have m3 : ¬ T < 1 + X := by omega
            have m4 : ¬ BY ≤ T - (1 + X) := by omega
            have x1 : wrap64 X = X := wrap64_in (by omega) (by omega)
            have x2 : wrap64 (1 + X) = 1 + X := wrap64_in (by omega) (by omega)
            have x3 : wrap64 (T - (1 + X)) = T - (1 + X) := wrap64_in (by omega) (by omega)
            have y1 : IntKind.i64.wrap X = X := IntWalk.i64_in _ (by omega)
            have y2 : IntKind.i64.wrap (1 + X) = 1 + X := IntWalk.i64_in _ (by omega)
            have y3 : IntKind.i64.wrap (T - (1 + X)) = T - (1 + X) := IntWalk.i64_in _ (by omega)
            have HC : Hid (Gr w4 w4.drew) := Gr.drew w4
            refine wp_region_G 48 Gr (by kernel_rfl) ?_
            generalize w4.drew = wc at HC ⊢
            -- 0: slot 66
            refine wpG_take preGr (i := 0) (v := ?_) (by kernel_rfl) (some 66) (by kernel_rfl) rfl (by kernel_rfl) (by kernel_rfl) (by kernel_rfl) (fun _ _ _ h => h) (by rfl) (fun w' hw' => ?_) rfl ?_
            rotate_left
            · have hgw := Gr.trans HC.out hw'
              obtain ⟨d0, d1⟩ := copy_cells (heap_gr hgw HDD4.out)
              have d2 := cell_gr hgw HTC4.out
              have d3 := cell_gr hgw HLC4.out
              go_simp
              with_reducible rfl
            simp only [Act.put, List.setIfInBounds_toArray, List.set_cons_zero, List.set_cons_succ]
            -- 1: slot 67
            refine wpG_take preGr (i := 1) (v := ?_) (by kernel_rfl) (some 67) (by kernel_rfl) rfl (by kernel_rfl) (by kernel_rfl) (by kernel_rfl) (fun _ _ _ h => h) (by rfl) (fun w' hw' => ?_) rfl ?_
            rotate_left
            · have hgw := Gr.trans HC.out hw'
              obtain ⟨d0, d1⟩ := copy_cells (heap_gr hgw HDD4.out)
              have d2 := cell_gr hgw HTC4.out
              have d3 := cell_gr hgw HLC4.out
              go_simp
              with_reducible rfl
            simp only [Act.put, List.setIfInBounds_toArray, List.set_cons_zero, List.set_cons_succ]
            -- 2: slot 68
            refine wpG_take preGr (i := 2) (v := ?_) (by kernel_rfl) (some 68) (by kernel_rfl) rfl (by kernel_rfl) (by kernel_rfl) (by kernel_rfl) (fun _ _ _ h => h) (by rfl) (fun w' hw' => ?_) rfl ?_
            rotate_left
            · have hgw := Gr.trans HC.out hw'
              obtain ⟨d0, d1⟩ := copy_cells (heap_gr hgw HDD4.out)
              have d2 := cell_gr hgw HTC4.out
              have d3 := cell_gr hgw HLC4.out
              go_simp
              with_reducible rfl
            simp only [Act.put, List.setIfInBounds_toArray, List.set_cons_zero, List.set_cons_succ]
            -- 3: slot 69
            refine wpG_take preGr (i := 3) (v := ?_) (by kernel_rfl) (some 69) (by kernel_rfl) rfl (by kernel_rfl) (by kernel_rfl) (by kernel_rfl) (fun _ _ _ h => h) (by rfl) (fun w' hw' => ?_) rfl ?_
            rotate_left
            · have hgw := Gr.trans HC.out hw'
              obtain ⟨d0, d1⟩ := copy_cells (heap_gr hgw HDD4.out)
              have d2 := cell_gr hgw HTC4.out
              have d3 := cell_gr hgw HLC4.out
              go_simp
              with_reducible rfl
            simp only [Act.put, List.setIfInBounds_toArray, List.set_cons_zero, List.set_cons_succ]
            -- 4: slot 70
            refine wpG_take preGr (i := 4) (v := ?_) (by kernel_rfl) (some 70) (by kernel_rfl) rfl (by kernel_rfl) (by kernel_rfl) (by kernel_rfl) (fun _ _ _ h => h) (by rfl) (fun w' hw' => ?_) rfl ?_
            rotate_left
            · have hgw := Gr.trans HC.out hw'
              obtain ⟨d0, d1⟩ := copy_cells (heap_gr hgw HDD4.out)
              have d2 := cell_gr hgw HTC4.out
              have d3 := cell_gr hgw HLC4.out
              go_simp
              with_reducible rfl
            simp only [Act.put, List.setIfInBounds_toArray, List.set_cons_zero, List.set_cons_succ]
            -- 5: slot 71
            refine wpG_take preGr (i := 5) (v := ?_) (by kernel_rfl) (some 71) (by kernel_rfl) rfl (by kernel_rfl) (by kernel_rfl) (by kernel_rfl) (fun _ _ _ h => h) (by rfl) (fun w' hw' => ?_) rfl ?_
            rotate_left
            · have hgw := Gr.trans HC.out hw'
              obtain ⟨d0, d1⟩ := copy_cells (heap_gr hgw HDD4.out)
              have d2 := cell_gr hgw HTC4.out
              have d3 := cell_gr hgw HLC4.out
              go_simp
              with_reducible rfl
            simp only [Act.put, List.setIfInBounds_toArray, List.set_cons_zero, List.set_cons_succ]
            -- 6: slot 72
            refine wpG_take preGr (i := 6) (v := ?_) (by kernel_rfl) (some 72) (by kernel_rfl) rfl (by kernel_rfl) (by kernel_rfl) (by kernel_rfl) (fun _ _ _ h => h) (by rfl) (fun w' hw' => ?_) rfl ?_
            rotate_left
            · have hgw := Gr.trans HC.out hw'
              obtain ⟨d0, d1⟩ := copy_cells (heap_gr hgw HDD4.out)
              have d2 := cell_gr hgw HTC4.out
              have d3 := cell_gr hgw HLC4.out
              go_simp
              with_reducible rfl
            simp only [Act.put, List.setIfInBounds_toArray, List.set_cons_zero, List.set_cons_succ]
            -- 7: slot 73
            refine wpG_take preGr (i := 7) (v := ?_) (by kernel_rfl) (some 73) (by kernel_rfl) rfl (by kernel_rfl) (by kernel_rfl) (by kernel_rfl) (fun _ _ _ h => h) (by rfl) (fun w' hw' => ?_) rfl ?_
            rotate_left
            · have hgw := Gr.trans HC.out hw'
              obtain ⟨d0, d1⟩ := copy_cells (heap_gr hgw HDD4.out)
              have d2 := cell_gr hgw HTC4.out
              have d3 := cell_gr hgw HLC4.out
              go_simp
              with_reducible rfl
            simp only [Act.put, List.setIfInBounds_toArray, List.set_cons_zero, List.set_cons_succ]
            -- 8: slot 74
            refine wpG_take preGr (i := 8) (v := ?_) (by kernel_rfl) (some 74) (by kernel_rfl) rfl (by kernel_rfl) (by kernel_rfl) (by kernel_rfl) (fun _ _ _ h => h) (by rfl) (fun w' hw' => ?_) rfl ?_
            rotate_left
            · have hgw := Gr.trans HC.out hw'
              obtain ⟨d0, d1⟩ := copy_cells (heap_gr hgw HDD4.out)
              have d2 := cell_gr hgw HTC4.out
              have d3 := cell_gr hgw HLC4.out
              go_simp
              with_reducible rfl
            simp only [Act.put, List.setIfInBounds_toArray, List.set_cons_zero, List.set_cons_succ]
            -- 9: slot 75
            refine wpG_take preGr (i := 9) (v := ?_) (by kernel_rfl) (some 75) (by kernel_rfl) rfl (by kernel_rfl) (by kernel_rfl) (by kernel_rfl) (fun _ _ _ h => h) (by rfl) (fun w' hw' => ?_) rfl ?_
            rotate_left
            · have hgw := Gr.trans HC.out hw'
              obtain ⟨d0, d1⟩ := copy_cells (heap_gr hgw HDD4.out)
              have d2 := cell_gr hgw HTC4.out
              have d3 := cell_gr hgw HLC4.out
              go_simp
              with_reducible rfl
            simp only [Act.put, List.setIfInBounds_toArray, List.set_cons_zero, List.set_cons_succ]
            -- 10: slot 76
            refine wpG_take preGr (i := 10) (v := ?_) (by kernel_rfl) (some 76) (by kernel_rfl) rfl (by kernel_rfl) (by kernel_rfl) (by kernel_rfl) (fun _ _ _ h => h) (by rfl) (fun w' hw' => ?_) rfl ?_
            rotate_left
            · have hgw := Gr.trans HC.out hw'
              obtain ⟨d0, d1⟩ := copy_cells (heap_gr hgw HDD4.out)
              have d2 := cell_gr hgw HTC4.out
              have d3 := cell_gr hgw HLC4.out
              go_simp
              with_reducible rfl
            simp only [Act.put, List.setIfInBounds_toArray, List.set_cons_zero, List.set_cons_succ]
            -- 11: slot 77
            refine wpG_take preGr (i := 11) (v := ?_) (by kernel_rfl) (some 77) (by kernel_rfl) rfl (by kernel_rfl) (by kernel_rfl) (by kernel_rfl) (fun _ _ _ h => h) (by rfl) (fun w' hw' => ?_) rfl ?_
            rotate_left
            · have hgw := Gr.trans HC.out hw'
              obtain ⟨d0, d1⟩ := copy_cells (heap_gr hgw HDD4.out)
              have d2 := cell_gr hgw HTC4.out
              have d3 := cell_gr hgw HLC4.out
              go_simp
              with_reducible rfl
            simp only [Act.put, List.setIfInBounds_toArray, List.set_cons_zero, List.set_cons_succ]
            -- 12: slot 78
            refine wpG_take preGr (i := 12) (v := ?_) (by kernel_rfl) (some 78) (by kernel_rfl) rfl (by kernel_rfl) (by kernel_rfl) (by kernel_rfl) (fun _ _ _ h => h) (by rfl) (fun w' hw' => ?_) rfl ?_
            rotate_left
            · have hgw := Gr.trans HC.out hw'
              obtain ⟨d0, d1⟩ := copy_cells (heap_gr hgw HDD4.out)
              have d2 := cell_gr hgw HTC4.out
              have d3 := cell_gr hgw HLC4.out
              go_simp
              with_reducible rfl
            simp only [Act.put, List.setIfInBounds_toArray, List.set_cons_zero, List.set_cons_succ]
            -- 13: slot 79
            refine wpG_take preGr (i := 13) (v := ?_) (by kernel_rfl) (some 79) (by kernel_rfl) rfl (by kernel_rfl) (by kernel_rfl) (by kernel_rfl) (fun _ _ _ h => h) (by rfl) (fun w' hw' => ?_) rfl ?_
            rotate_left
            · have hgw := Gr.trans HC.out hw'
              obtain ⟨d0, d1⟩ := copy_cells (heap_gr hgw HDD4.out)
              have d2 := cell_gr hgw HTC4.out
              have d3 := cell_gr hgw HLC4.out
              go_simp
              with_reducible rfl
            simp only [Act.put, List.setIfInBounds_toArray, List.set_cons_zero, List.set_cons_succ]
            -- 14: slot 80
            refine wpG_take preGr (i := 14) (v := ?_) (by kernel_rfl) (some 80) (by kernel_rfl) rfl (by kernel_rfl) (by kernel_rfl) (by kernel_rfl) (fun _ _ _ h => h) (by rfl) (fun w' hw' => ?_) rfl ?_
            rotate_left
            · have hgw := Gr.trans HC.out hw'
              obtain ⟨d0, d1⟩ := copy_cells (heap_gr hgw HDD4.out)
              have d2 := cell_gr hgw HTC4.out
              have d3 := cell_gr hgw HLC4.out
              go_simp
              with_reducible rfl
            simp only [Act.put, List.setIfInBounds_toArray, List.set_cons_zero, List.set_cons_succ]
            -- 15: slot 81
            refine wpG_take preGr (i := 15) (v := ?_) (by kernel_rfl) (some 81) (by kernel_rfl) rfl (by kernel_rfl) (by kernel_rfl) (by kernel_rfl) (fun _ _ _ h => h) (by rfl) (fun w' hw' => ?_) rfl ?_
            rotate_left
            · have hgw := Gr.trans HC.out hw'
              obtain ⟨d0, d1⟩ := copy_cells (heap_gr hgw HDD4.out)
              have d2 := cell_gr hgw HTC4.out
              have d3 := cell_gr hgw HLC4.out
              go_simp
              with_reducible rfl
            simp only [Act.put, List.setIfInBounds_toArray, List.set_cons_zero, List.set_cons_succ]
            -- 16: slot 82
            refine wpG_take preGr (i := 16) (v := ?_) (by kernel_rfl) (some 82) (by kernel_rfl) rfl (by kernel_rfl) (by kernel_rfl) (by kernel_rfl) (fun _ _ _ h => h) (by rfl) (fun w' hw' => ?_) rfl ?_
            rotate_left
            · have hgw := Gr.trans HC.out hw'
              obtain ⟨d0, d1⟩ := copy_cells (heap_gr hgw HDD4.out)
              have d2 := cell_gr hgw HTC4.out
              have d3 := cell_gr hgw HLC4.out
              go_simp
              with_reducible rfl
            simp only [Act.put, List.setIfInBounds_toArray, List.set_cons_zero, List.set_cons_succ]
            -- 17: slot 83
            refine wpG_take preGr (i := 17) (v := ?_) (by kernel_rfl) (some 83) (by kernel_rfl) rfl (by kernel_rfl) (by kernel_rfl) (by kernel_rfl) (fun _ _ _ h => h) (by rfl) (fun w' hw' => ?_) rfl ?_
            rotate_left
            · have hgw := Gr.trans HC.out hw'
              obtain ⟨d0, d1⟩ := copy_cells (heap_gr hgw HDD4.out)
              have d2 := cell_gr hgw HTC4.out
              have d3 := cell_gr hgw HLC4.out
              go_simp
              with_reducible rfl
            simp only [Act.put, List.setIfInBounds_toArray, List.set_cons_zero, List.set_cons_succ]
            -- 18: slot 84
            refine wpG_take preGr (i := 18) (v := ?_) (by kernel_rfl) (some 84) (by kernel_rfl) rfl (by kernel_rfl) (by kernel_rfl) (by kernel_rfl) (fun _ _ _ h => h) (by rfl) (fun w' hw' => ?_) rfl ?_
            rotate_left
            · have hgw := Gr.trans HC.out hw'
              obtain ⟨d0, d1⟩ := copy_cells (heap_gr hgw HDD4.out)
              have d2 := cell_gr hgw HTC4.out
              have d3 := cell_gr hgw HLC4.out
              go_simp
              with_reducible rfl
            simp only [Act.put, List.setIfInBounds_toArray, List.set_cons_zero, List.set_cons_succ]
            -- 19: slot 85
            refine wpG_take preGr (i := 19) (v := ?_) (by kernel_rfl) (some 85) (by kernel_rfl) rfl (by kernel_rfl) (by kernel_rfl) (by kernel_rfl) (fun _ _ _ h => h) (by rfl) (fun w' hw' => ?_) rfl ?_
            rotate_left
            · have hgw := Gr.trans HC.out hw'
              obtain ⟨d0, d1⟩ := copy_cells (heap_gr hgw HDD4.out)
              have d2 := cell_gr hgw HTC4.out
              have d3 := cell_gr hgw HLC4.out
              go_simp
              with_reducible rfl
            simp only [Act.put, List.setIfInBounds_toArray, List.set_cons_zero, List.set_cons_succ]
            -- 20: slot 86
            refine wpG_take preGr (i := 20) (v := ?_) (by kernel_rfl) (some 86) (by kernel_rfl) rfl (by kernel_rfl) (by kernel_rfl) (by kernel_rfl) (fun _ _ _ h => h) (by rfl) (fun w' hw' => ?_) rfl ?_
            rotate_left
            · have hgw := Gr.trans HC.out hw'
              obtain ⟨d0, d1⟩ := copy_cells (heap_gr hgw HDD4.out)
              have d2 := cell_gr hgw HTC4.out
              have d3 := cell_gr hgw HLC4.out
              go_simp
              with_reducible rfl
            simp only [Act.put, List.setIfInBounds_toArray, List.set_cons_zero, List.set_cons_succ]
            -- 21: slot 87
            refine wpG_take preGr (i := 21) (v := ?_) (by kernel_rfl) (some 87) (by kernel_rfl) rfl (by kernel_rfl) (by kernel_rfl) (by kernel_rfl) (fun _ _ _ h => h) (by rfl) (fun w' hw' => ?_) rfl ?_
            rotate_left
            · have hgw := Gr.trans HC.out hw'
              obtain ⟨d0, d1⟩ := copy_cells (heap_gr hgw HDD4.out)
              have d2 := cell_gr hgw HTC4.out
              have d3 := cell_gr hgw HLC4.out
              go_simp
              with_reducible rfl
            simp only [Act.put, List.setIfInBounds_toArray, List.set_cons_zero, List.set_cons_succ]
            -- 22: slot 88
            refine wpG_take preGr (i := 22) (v := ?_) (by kernel_rfl) (some 88) (by kernel_rfl) rfl (by kernel_rfl) (by kernel_rfl) (by kernel_rfl) (fun _ _ _ h => h) (by rfl) (fun w' hw' => ?_) rfl ?_
            rotate_left
            · have hgw := Gr.trans HC.out hw'
              obtain ⟨d0, d1⟩ := copy_cells (heap_gr hgw HDD4.out)
              have d2 := cell_gr hgw HTC4.out
              have d3 := cell_gr hgw HLC4.out
              go_simp
              with_reducible rfl
            simp only [Act.put, List.setIfInBounds_toArray, List.set_cons_zero, List.set_cons_succ]
            -- 23: slot 89
            refine wpG_take preGr (i := 23) (v := ?_) (by kernel_rfl) (some 89) (by kernel_rfl) rfl (by kernel_rfl) (by kernel_rfl) (by kernel_rfl) (fun _ _ _ h => h) (by rfl) (fun w' hw' => ?_) rfl ?_
            rotate_left
            · have hgw := Gr.trans HC.out hw'
              obtain ⟨d0, d1⟩ := copy_cells (heap_gr hgw HDD4.out)
              have d2 := cell_gr hgw HTC4.out
              have d3 := cell_gr hgw HLC4.out
              go_simp
              with_reducible rfl
            simp only [Act.put, List.setIfInBounds_toArray, List.set_cons_zero, List.set_cons_succ]
            -- 24: slot 90
            refine wpG_take preGr (i := 24) (v := ?_) (by kernel_rfl) (some 90) (by kernel_rfl) rfl (by kernel_rfl) (by kernel_rfl) (by kernel_rfl) (fun _ _ _ h => h) (by rfl) (fun w' hw' => ?_) rfl ?_
            rotate_left
            · have hgw := Gr.trans HC.out hw'
              obtain ⟨d0, d1⟩ := copy_cells (heap_gr hgw HDD4.out)
              have d2 := cell_gr hgw HTC4.out
              have d3 := cell_gr hgw HLC4.out
              go_simp
              with_reducible rfl
            simp only [Act.put, List.setIfInBounds_toArray, List.set_cons_zero, List.set_cons_succ]
            -- 25: slot 91
            refine wpG_take preGr (i := 25) (v := ?_) (by kernel_rfl) (some 91) (by kernel_rfl) rfl (by kernel_rfl) (by kernel_rfl) (by kernel_rfl) (fun _ _ _ h => h) (by rfl) (fun w' hw' => ?_) rfl ?_
            rotate_left
            · have hgw := Gr.trans HC.out hw'
              obtain ⟨d0, d1⟩ := copy_cells (heap_gr hgw HDD4.out)
              have d2 := cell_gr hgw HTC4.out
              have d3 := cell_gr hgw HLC4.out
              go_simp
              with_reducible rfl
            simp only [Act.put, List.setIfInBounds_toArray, List.set_cons_zero, List.set_cons_succ]
            -- 26: slot 92
            refine wpG_take preGr (i := 26) (v := ?_) (by kernel_rfl) (some 92) (by kernel_rfl) rfl (by kernel_rfl) (by kernel_rfl) (by kernel_rfl) (fun _ _ _ h => h) (by rfl) (fun w' hw' => ?_) rfl ?_
            rotate_left
            · have hgw := Gr.trans HC.out hw'
              obtain ⟨d0, d1⟩ := copy_cells (heap_gr hgw HDD4.out)
              have d2 := cell_gr hgw HTC4.out
              have d3 := cell_gr hgw HLC4.out
              go_simp
              with_reducible rfl
            simp only [Act.put, List.setIfInBounds_toArray, List.set_cons_zero, List.set_cons_succ]
            -- 27: slot 93
            refine wpG_take preGr (i := 27) (v := ?_) (by kernel_rfl) (some 93) (by kernel_rfl) rfl (by kernel_rfl) (by kernel_rfl) (by kernel_rfl) (fun _ _ _ h => h) (by rfl) (fun w' hw' => ?_) rfl ?_
            rotate_left
            · have hgw := Gr.trans HC.out hw'
              obtain ⟨d0, d1⟩ := copy_cells (heap_gr hgw HDD4.out)
              have d2 := cell_gr hgw HTC4.out
              have d3 := cell_gr hgw HLC4.out
              go_simp
              with_reducible rfl
            simp only [Act.put, List.setIfInBounds_toArray, List.set_cons_zero, List.set_cons_succ]
            -- 28: slot 94
            refine wpG_take preGr (i := 28) (v := ?_) (by kernel_rfl) (some 94) (by kernel_rfl) rfl (by kernel_rfl) (by kernel_rfl) (by kernel_rfl) (fun _ _ _ h => h) (by rfl) (fun w' hw' => ?_) rfl ?_
            rotate_left
            · have hgw := Gr.trans HC.out hw'
              obtain ⟨d0, d1⟩ := copy_cells (heap_gr hgw HDD4.out)
              have d2 := cell_gr hgw HTC4.out
              have d3 := cell_gr hgw HLC4.out
              go_simp
              with_reducible rfl
            simp only [Act.put, List.setIfInBounds_toArray, List.set_cons_zero, List.set_cons_succ]
            -- 29: slot 95
            refine wpG_take preGr (i := 29) (v := ?_) (by kernel_rfl) (some 95) (by kernel_rfl) rfl (by kernel_rfl) (by kernel_rfl) (by kernel_rfl) (fun _ _ _ h => h) (by rfl) (fun w' hw' => ?_) rfl ?_
            rotate_left
            · have hgw := Gr.trans HC.out hw'
              obtain ⟨d0, d1⟩ := copy_cells (heap_gr hgw HDD4.out)
              have d2 := cell_gr hgw HTC4.out
              have d3 := cell_gr hgw HLC4.out
              go_simp
              with_reducible rfl
            simp only [Act.put, List.setIfInBounds_toArray, List.set_cons_zero, List.set_cons_succ]
            -- 30: slot 96
            refine wpG_take preGr (i := 30) (v := ?_) (by kernel_rfl) (some 96) (by kernel_rfl) rfl (by kernel_rfl) (by kernel_rfl) (by kernel_rfl) (fun _ _ _ h => h) (by rfl) (fun w' hw' => ?_) rfl ?_
            rotate_left
            · have hgw := Gr.trans HC.out hw'
              obtain ⟨d0, d1⟩ := copy_cells (heap_gr hgw HDD4.out)
              have d2 := cell_gr hgw HTC4.out
              have d3 := cell_gr hgw HLC4.out
              go_simp
              with_reducible rfl
            simp only [Act.put, List.setIfInBounds_toArray, List.set_cons_zero, List.set_cons_succ]
            -- 31: slot 97
            refine wpG_take preGr (i := 31) (v := ?_) (by kernel_rfl) (some 97) (by kernel_rfl) rfl (by kernel_rfl) (by kernel_rfl) (by kernel_rfl) (fun _ _ _ h => h) (by rfl) (fun w' hw' => ?_) rfl ?_
            rotate_left
            · have hgw := Gr.trans HC.out hw'
              obtain ⟨d0, d1⟩ := copy_cells (heap_gr hgw HDD4.out)
              have d2 := cell_gr hgw HTC4.out
              have d3 := cell_gr hgw HLC4.out
              go_simp
              with_reducible rfl
            simp only [Act.put, List.setIfInBounds_toArray, List.set_cons_zero, List.set_cons_succ]
            -- 32: slot 98
            refine wpG_take preGr (i := 32) (v := ?_) (by kernel_rfl) (some 98) (by kernel_rfl) rfl (by kernel_rfl) (by kernel_rfl) (by kernel_rfl) (fun _ _ _ h => h) (by rfl) (fun w' hw' => ?_) rfl ?_
            rotate_left
            · have hgw := Gr.trans HC.out hw'
              obtain ⟨d0, d1⟩ := copy_cells (heap_gr hgw HDD4.out)
              have d2 := cell_gr hgw HTC4.out
              have d3 := cell_gr hgw HLC4.out
              go_simp
              with_reducible rfl
            simp only [Act.put, List.setIfInBounds_toArray, List.set_cons_zero, List.set_cons_succ]
            -- 33: slot 99
            refine wpG_take preGr (i := 33) (v := ?_) (by kernel_rfl) (some 99) (by kernel_rfl) rfl (by kernel_rfl) (by kernel_rfl) (by kernel_rfl) (fun _ _ _ h => h) (by rfl) (fun w' hw' => ?_) rfl ?_
            rotate_left
            · have hgw := Gr.trans HC.out hw'
              obtain ⟨d0, d1⟩ := copy_cells (heap_gr hgw HDD4.out)
              have d2 := cell_gr hgw HTC4.out
              have d3 := cell_gr hgw HLC4.out
              go_simp
              with_reducible rfl
            simp only [Act.put, List.setIfInBounds_toArray, List.set_cons_zero, List.set_cons_succ]
            -- 34: slot 100
            refine wpG_take preGr (i := 34) (v := ?_) (by kernel_rfl) (some 100) (by kernel_rfl) rfl (by kernel_rfl) (by kernel_rfl) (by kernel_rfl) (fun _ _ _ h => h) (by rfl) (fun w' hw' => ?_) rfl ?_
            rotate_left
            · have hgw := Gr.trans HC.out hw'
              obtain ⟨d0, d1⟩ := copy_cells (heap_gr hgw HDD4.out)
              have d2 := cell_gr hgw HTC4.out
              have d3 := cell_gr hgw HLC4.out
              go_simp
              with_reducible rfl
            simp only [Act.put, List.setIfInBounds_toArray, List.set_cons_zero, List.set_cons_succ]
            -- 35: slot 101
            refine wpG_take preGr (i := 35) (v := ?_) (by kernel_rfl) (some 101) (by kernel_rfl) rfl (by kernel_rfl) (by kernel_rfl) (by kernel_rfl) (fun _ _ _ h => h) (by rfl) (fun w' hw' => ?_) rfl ?_
            rotate_left
            · have hgw := Gr.trans HC.out hw'
              obtain ⟨d0, d1⟩ := copy_cells (heap_gr hgw HDD4.out)
              have d2 := cell_gr hgw HTC4.out
              have d3 := cell_gr hgw HLC4.out
              go_simp
              with_reducible rfl
            simp only [Act.put, List.setIfInBounds_toArray, List.set_cons_zero, List.set_cons_succ]
            -- 36: slot 102
            refine wpG_take preGr (i := 36) (v := ?_) (by kernel_rfl) (some 102) (by kernel_rfl) rfl (by kernel_rfl) (by kernel_rfl) (by kernel_rfl) (fun _ _ _ h => h) (by rfl) (fun w' hw' => ?_) rfl ?_
            rotate_left
            · have hgw := Gr.trans HC.out hw'
              obtain ⟨d0, d1⟩ := copy_cells (heap_gr hgw HDD4.out)
              have d2 := cell_gr hgw HTC4.out
              have d3 := cell_gr hgw HLC4.out
              go_simp
              with_reducible rfl
            simp only [Act.put, List.setIfInBounds_toArray, List.set_cons_zero, List.set_cons_succ]
            -- 37: slot 103
            refine wpG_take preGr (i := 37) (v := ?_) (by kernel_rfl) (some 103) (by kernel_rfl) rfl (by kernel_rfl) (by kernel_rfl) (by kernel_rfl) (fun _ _ _ h => h) (by rfl) (fun w' hw' => ?_) rfl ?_
            rotate_left
            · have hgw := Gr.trans HC.out hw'
              obtain ⟨d0, d1⟩ := copy_cells (heap_gr hgw HDD4.out)
              have d2 := cell_gr hgw HTC4.out
              have d3 := cell_gr hgw HLC4.out
              go_simp
              with_reducible rfl
            simp only [Act.put, List.setIfInBounds_toArray, List.set_cons_zero, List.set_cons_succ]
            -- 38: slot 104
            refine wpG_take preGr (i := 38) (v := ?_) (by kernel_rfl) (some 104) (by kernel_rfl) rfl (by kernel_rfl) (by kernel_rfl) (by kernel_rfl) (fun _ _ _ h => h) (by rfl) (fun w' hw' => ?_) rfl ?_
            rotate_left
            · have hgw := Gr.trans HC.out hw'
              obtain ⟨d0, d1⟩ := copy_cells (heap_gr hgw HDD4.out)
              have d2 := cell_gr hgw HTC4.out
              have d3 := cell_gr hgw HLC4.out
              go_simp
              with_reducible rfl
            simp only [Act.put, List.setIfInBounds_toArray, List.set_cons_zero, List.set_cons_succ]
            -- 39: slot 105
            refine wpG_take preGr (i := 39) (v := ?_) (by kernel_rfl) (some 105) (by kernel_rfl) rfl (by kernel_rfl) (by kernel_rfl) (by kernel_rfl) (fun _ _ _ h => h) (by rfl) (fun w' hw' => ?_) rfl ?_
            rotate_left
            · have hgw := Gr.trans HC.out hw'
              obtain ⟨d0, d1⟩ := copy_cells (heap_gr hgw HDD4.out)
              have d2 := cell_gr hgw HTC4.out
              have d3 := cell_gr hgw HLC4.out
              go_simp
              with_reducible rfl
            simp only [Act.put, List.setIfInBounds_toArray, List.set_cons_zero, List.set_cons_succ]
            -- 40: slot 106
            refine wpG_take preGr (i := 40) (v := ?_) (by kernel_rfl) (some 106) (by kernel_rfl) rfl (by kernel_rfl) (by kernel_rfl) (by kernel_rfl) (fun _ _ _ h => h) (by rfl) (fun w' hw' => ?_) rfl ?_
            rotate_left
            · have hgw := Gr.trans HC.out hw'
              obtain ⟨d0, d1⟩ := copy_cells (heap_gr hgw HDD4.out)
              have d2 := cell_gr hgw HTC4.out
              have d3 := cell_gr hgw HLC4.out
              go_simp
              with_reducible rfl
            simp only [Act.put, List.setIfInBounds_toArray, List.set_cons_zero, List.set_cons_succ]
            -- 41: slot 107
            refine wpG_take preGr (i := 41) (v := ?_) (by kernel_rfl) (some 107) (by kernel_rfl) rfl (by kernel_rfl) (by kernel_rfl) (by kernel_rfl) (fun _ _ _ h => h) (by rfl) (fun w' hw' => ?_) rfl ?_
            rotate_left
            · have hgw := Gr.trans HC.out hw'
              obtain ⟨d0, d1⟩ := copy_cells (heap_gr hgw HDD4.out)
              have d2 := cell_gr hgw HTC4.out
              have d3 := cell_gr hgw HLC4.out
              go_simp
              with_reducible rfl
            simp only [Act.put, List.setIfInBounds_toArray, List.set_cons_zero, List.set_cons_succ]
            -- 42: slot 108
            refine wpG_take preGr (i := 42) (v := ?_) (by kernel_rfl) (some 108) (by kernel_rfl) rfl (by kernel_rfl) (by kernel_rfl) (by kernel_rfl) (fun _ _ _ h => h) (by rfl) (fun w' hw' => ?_) rfl ?_
            rotate_left
            · have hgw := Gr.trans HC.out hw'
              obtain ⟨d0, d1⟩ := copy_cells (heap_gr hgw HDD4.out)
              have d2 := cell_gr hgw HTC4.out
              have d3 := cell_gr hgw HLC4.out
              go_simp
              with_reducible rfl
            simp only [Act.put, List.setIfInBounds_toArray, List.set_cons_zero, List.set_cons_succ]
            -- 43: slot 109
            refine wpG_take preGr (i := 43) (v := ?_) (by kernel_rfl) (some 109) (by kernel_rfl) rfl (by kernel_rfl) (by kernel_rfl) (by kernel_rfl) (fun _ _ _ h => h) (by rfl) (fun w' hw' => ?_) rfl ?_
            rotate_left
            · have hgw := Gr.trans HC.out hw'
              obtain ⟨d0, d1⟩ := copy_cells (heap_gr hgw HDD4.out)
              have d2 := cell_gr hgw HTC4.out
              have d3 := cell_gr hgw HLC4.out
              go_simp
              with_reducible rfl
            simp only [Act.put, List.setIfInBounds_toArray, List.set_cons_zero, List.set_cons_succ]
            -- 44: slot 110
            refine wpG_take preGr (i := 44) (v := ?_) (by kernel_rfl) (some 110) (by kernel_rfl) rfl (by kernel_rfl) (by kernel_rfl) (by kernel_rfl) (fun _ _ _ h => h) (by rfl) (fun w' hw' => ?_) rfl ?_
            rotate_left
            · have hgw := Gr.trans HC.out hw'
              obtain ⟨d0, d1⟩ := copy_cells (heap_gr hgw HDD4.out)
              have d2 := cell_gr hgw HTC4.out
              have d3 := cell_gr hgw HLC4.out
              go_simp
              with_reducible rfl
            simp only [Act.put, List.setIfInBounds_toArray, List.set_cons_zero, List.set_cons_succ]
            -- 45: slot 111
            refine wpG_take preGr (i := 45) (v := ?_) (by kernel_rfl) (some 111) (by kernel_rfl) rfl (by kernel_rfl) (by kernel_rfl) (by kernel_rfl) (fun _ _ _ h => h) (by rfl) (fun w' hw' => ?_) rfl ?_
            rotate_left
            · have hgw := Gr.trans HC.out hw'
              obtain ⟨d0, d1⟩ := copy_cells (heap_gr hgw HDD4.out)
              have d2 := cell_gr hgw HTC4.out
              have d3 := cell_gr hgw HLC4.out
              go_simp
              with_reducible rfl
            simp only [Act.put, List.setIfInBounds_toArray, List.set_cons_zero, List.set_cons_succ]
            -- 46: slot 112
            refine wpG_take preGr (i := 46) (v := ?_) (by kernel_rfl) (some 112) (by kernel_rfl) rfl (by kernel_rfl) (by kernel_rfl) (by kernel_rfl) (fun _ _ _ h => h) (by rfl) (fun w' hw' => ?_) rfl ?_
            rotate_left
            · have hgw := Gr.trans HC.out hw'
              obtain ⟨d0, d1⟩ := copy_cells (heap_gr hgw HDD4.out)
              have d2 := cell_gr hgw HTC4.out
              have d3 := cell_gr hgw HLC4.out
              go_simp
              with_reducible rfl
            simp only [Act.put, List.setIfInBounds_toArray, List.set_cons_zero, List.set_cons_succ]
            -- 47: slot 113
            refine wpG_take preGr (i := 47) (v := ?_) (by kernel_rfl) (some 113) (by kernel_rfl) rfl (by kernel_rfl) (by kernel_rfl) (by kernel_rfl) (fun _ _ _ h => h) (by rfl) (fun w' hw' => ?_) rfl ?_
            rotate_left
            · have hgw := Gr.trans HC.out hw'
              obtain ⟨d0, d1⟩ := copy_cells (heap_gr hgw HDD4.out)
              have d2 := cell_gr hgw HTC4.out
              have d3 := cell_gr hgw HLC4.out
              go_simp
              with_reducible rfl
            simp only [Act.put, List.setIfInBounds_toArray, List.set_cons_zero, List.set_cons_succ]
            refine wpG_done (by kernel_rfl) ?_ _
            have HTS5 := Lib.hid (HTS4.out.gr HC.out)
            have HRW5 := Lib.hid (HRW4.out.gr HC.out)
            obtain ⟨d0, d1⟩ := copy_cells (heap_gr HC.out HDD4.out)
            have HFIT : Hid (j < (bt (told l0 M (T - BY) U k)).length) := by show _ < _; rw [bt_length]; exact hj80
            clear HTS4 HRW4 HDD4 HTC4 HLC4 HC x1 x2 x3 y1 y2 y3
            go_wp2_with (refine wpList_store_cell rfl 4 (.tmp 117) _ rfl g j (.bool true) rfl rfl 4 (bt (told l0 M (T - BY) U k)) HTS5.out.tb sizeBool HFIT.out rfl ?_)
            intro w6 h6 ho6
            rw [HST.out] at h6
            have HTS6 := Lib.hid (HTS5.out.put ho6 h6)
            have HRW6 := Lib.hid (HTS5.out.row ho6 HRW5.out)
            clear h6 ho6 d0 d1 HTS5 HRW5 HST HFIT m0 m1 m2 m3 m4 m5 m6 m7
            go_wp2_with fail
            go_roundw
            case rel =>
              first
                | exact ⟨k + 1, hle, by go_num, HTS6, HRW6⟩
                | ((repeat apply Exists.intro); exact ⟨⟨k + 1, hle, by go_num, HTS6, HRW6⟩, rfl⟩)
            case measure => simp [intOf]; omega
          · have hku2 : k = u := by omega
            have HTE : Hid (TS W wr p g L5 (told l0 M (T + BY - BY) [] 0)) := by
              show TS _ _ _ _ _ _
              rw [show T + BY - BY = T by omega, ← HEND.out, ← HU.out, ← hku2]
              exact HTS.out
            have HTH6 : Hid (These l0 M (T + BY - BY) L5) := by show These _ _ _ _; rw [show T + BY - BY = T by omega]; exact HTH5.out
            have x6 : wrap64 (T + BY) = T + BY := wrap64_in (by omega) (by omega)
            have ht0 : 0 ≤ T + BY := by omega
            have ht1 : T + BY < LIM + BY := by omega
            clear hku2 HTS HRW HTH5 HEND HDA HU
            go_wp2_with fail
            go_roundw
            case rel =>
              first
                | exact ⟨T + BY, L5, ht0, ht1, by go_num, HTE, HTH6⟩
                | ((repeat apply Exists.intro); exact ⟨⟨T + BY, L5, ht0, ht1, by go_num, HTE, HTH6⟩, rfl⟩)
            case measure => simp [intOf]; omega
      · have hT2 : 256 ≤ T - BY := by omega
        obtain rfl : L = [] := HTH.out.none hT2
        have HF : Hid (∀ j, j < M → told l0 M (T - BY) [] 0 j = true) := fun j hj => told_all hT2 hj []
        have h63 := HN63.out
        obtain ⟨f, hf⟩ : ∃ f, f = told l0 M (T - BY) [] 0 := ⟨_, rfl⟩
        rw [← hf] at HTS HF
        clear HTH hf x5 hlim
        obtain ⟨wo, hwo⟩ : ∃ x, x = wr := ⟨_, rfl⟩
        subst hwo
        go_wp2_with fail
        go_loopw [13] (fun iv wr => ∃ i : Nat, i ≤ n0 ∧ i ≤ 80 ∧ iv = .int .i64 (i : Int) ∧ Hid (TS W wr p g [] f)) (fun iv _ => n0 - (intOf iv).toNat)
        case atStart => exact ⟨0, Nat.zero_le _, Nat.zero_le _, rfl, HTS⟩
        case round =>
          clear HTS
          obtain ⟨i, hin, hi80, hiv, HTS⟩ := hrel
          subst hiv
          have HLEN : Hid (Calls Try.prog 17 #[.pointer (some ⟨p, 0, none⟩)] wr fun e w' => e = .returned (.int .i64 0) ∧ wr = w') := HTS.out.lt.len
          by_cases hlt : i < n0
          · by_cases hl80 : i < 80
            · have hc := HTS.out.cell hl80
              rw [HF.out i (by have := HM.out; omega)] at hc
              have hle : i + 1 ≤ n0 := by omega
              have hle80 : i + 1 ≤ 80 := by omega
              have m5 : (i : Int) < 80 := by omega
              go_wp2_with fail
              go_roundw
              case rel =>
                first
                  | exact ⟨i + 1, hle, hle80, by go_num, HTS⟩
                  | ((repeat apply Exists.intro); exact ⟨⟨i + 1, hle, hle80, by go_num, HTS⟩, rfl⟩)
              case measure => simp [intOf]; omega
            · go_wp2_with fail
              refine HLEN.out.mono ?_
              rintro e w7 ⟨rfl, rfl⟩
              go_wp2_with fail
              go_ret
              exact ⟨rfl, HTS.out.lt.low⟩
          · go_wp2_with fail
            refine HLEN.out.mono ?_
            rintro e w7 ⟨rfl, rfl⟩
            go_wp2_with fail
            go_ret
            exact ⟨rfl, HTS.out.lt.low⟩
theorem own : ownKnob Try.prog.godebug = none := by kernel_rfl
theorem laidOut : laidOutB Try.prog = true := by kernel_rfl
set_option maxRecDepth 100000 in
theorem lifted (os : Os) (started : os.Started) (H : Type) (enc : TypeId × Value → H) :
    ReturnsInHanded {} Try.checked os 4 .any (Rows.timersNoneSpec.pre6 enc Try.prog Try.f4 Rows.timersNoneRow.domain false) (Rows.timersNoneSpec.post enc Try.prog Try.f4 false true false false) := by
  refine returnsInHanded_of_change (C := Try.checked) own started (by kernel_rfl) Try.func4
    (ChangeSpec.witness6 (enc := enc) (C := Try.checked) false ⟨#[], #[.slice none 0 0, .int .u8 0], []⟩ 8 (by kernel_rfl) (by kernel_rfl) (by kernel_rfl) (by kernel_rfl)) ?_
  intro W base args ds gs before hval0 hW hcnd _
  have hval : ∀ (j : Nat) t v, Try.f4.params[j]? = some t → args[j]? = some v → Value.okWide Try.prog W .any base t v := hval0
  have hW' := hW
  obtain ⟨p, q, hA0, hV, rfl, hfz, hnd⟩ := hW
  have hA : DataW.TrodAll enc Try.prog W 0 (fun _ => true) true Try.f4.params.toList args.toList ds p := hA0
  rw [Try.params4] at hA hval
  obtain ⟨v0, vs0, d0, ds0, p0, q0, hargs, rfl, rfl, h0, r0⟩ := trodAll_cons hA
  obtain ⟨v1, vs1, d1, ds1, p1, q1, rfl, rfl, rfl, h1, r1⟩ := trodAll_cons r0
  obtain ⟨rfl, rfl, rfl⟩ := trodAll_nil r1
  obtain rfl : args = #[v0, v1] := by cases args; simp_all
  obtain ⟨rfl, rfl⟩ := trodVars_none hV
  have k0 := h0
  have lt0 : ∀ x ∈ p0, x.block < W.heap.size := by obtain ⟨m, hm⟩ := k0; exact DataW.trod_lt m _ _ _ hm
  obtain ⟨a0, n0, c0, l0, rfl, hn0, b0⟩ := open_bytes Try.underlying46 Try.underlying5 (by kernel_rfl) (hval 0 46 v0 rfl rfl) h0
  have k1 := h1
  have lt1 : ∀ x ∈ p1, x.block < W.heap.size := by obtain ⟨m, hm⟩ := k1; exact DataW.trod_lt m _ _ _ hm
  obtain ⟨a1, rfl, rfl, rfl, w1⟩ := open_int Try.underlying5 (hval 1 5 v1 rfl rfl) h1
  clear hA0 hval0
  refine (walk W a0 n0 c0 l0 hn0 b0 a1 w1).mono fun e W' ⟨he, bel⟩ => ?_
  subst he
  exact ⟨_, rfl, _, _, _, [], _, [], hW', trodAll_mk1 (shut_bool Try.underlying4 _), (trodAll_cons_mk (Below.trod laidOut (by kernel_rfl) (of_decide_eq_true (by kernel_rfl)) k0 bel lt0) (trodAll_cons_mk (Below.trod laidOut (by kernel_rfl) (of_decide_eq_true (by kernel_rfl)) k1 bel lt1) trodAll_mk0)), rfl, bel.frame _, fun h => by cases h⟩
theorem over : Rows.timersNoneRow.holds Try.pinned (OpenSpec.ofChange Rows.timersNoneSpec) :=
  OpenClaim.holds_of_wide 4 Try.f4 rfl rfl rfl rfl rfl rfl rfl ⟨rfl, rfl, rfl, rfl, rfl⟩ rfl rfl rfl rfl rfl (by kernel_rfl) Try.func4 (by kernel_rfl)
    (of_decide_eq_true (by kernel_rfl)) (by unfold Func.isWrapper; first | (rw [if_pos (by decide +kernel)]; kernel_rfl) | (rw [if_neg (by decide +kernel)]; exact ⟨rfl, rfl⟩))
    (fun os started H enc _ => lifted os started H enc)
/-- The statement. -/
theorem proved : Rows.TimersNoneSaid := over
end Go.Proofs.Ytmcifmgfgdahnaa.timersNone
