/-
  64 options may be, and 1488 bytes: opts.Encode and opts.Decode tell them; one option more is ErrMany, one byte more is ErrLong, of both (conciergelaw08.OptsEnds answers true). No conditions.
-/
import Derived.Test.YteemcckfhadkhaaOpN
import Derived.Test.YteemcckfhadkhaaOpB
import Derived.Test.YteemcckfhadkhaaOpD
import Derived.Test.YteemcckfhadkhaaOpQ
import Derived.ProofKit
import Derived.OpenShut
import Derived.ChangeOld
import Derived.Deep.DeepCutAuto
namespace Go.Proofs.Yteemcckfhadkhaa.optsEnds
open Go.ChangeShapes Go.WideShapes Go.ChangeAt Go.RowKit O
set_option linter.unusedVariables false
set_option linter.unusedSimpArgs false

theorem own_zl {w : World} {base g F : Nat} (h : w.ownsRow base 5 1 (.slice (some ⟨g, 0, none⟩) F F) F (madeCells #[.int .u8 0] F).toList) : OwnB w base 5 (.slice (some ⟨g, 0, none⟩) F F) (zl F) := by
  have e : (madeCells #[.int .u8 0] F).toList = (zl F).map u8v := by
    unfold zl
    rw [List.map_replicate]
    exact toList_madeCells_one (.int .u8 0) F
  rw [e] at h
  unfold OwnB
  rw [zl_length]
  exact h

set_option maxRecDepth 20000 in
set_option maxHeartbeats 8000000 in
theorem walk (W : World) (a0 : Int) (w0 : (Lit.int .u8 a0).wf = true) (a1 : Bool) :
    Calls Try.prog 8 #[.int .u8 a0, .bool a1] W fun e w' => e = .returned (.bool true) ∧ Below W.heap.size W w' := by
  obtain ⟨i0, hi, hz0, hz1, hz2⟩ := info_parts infoT
  obtain ⟨j0, hj, hy0, hy1, hy2⟩ := info_parts info5
  have AW := Lib.hid awake_any
  have h0 : 0 ≤ a0 ∧ a0 ≤ 255 := by simpa [Lit.wf, IntKind.min, IntKind.max, IntKind.signed, IntKind.bits] using w0
  obtain ⟨Y, rfl⟩ : ∃ Y : Nat, a0 = (Y : Int) := ⟨a0.toNat, by omega⟩
  obtain ⟨k, hk⟩ : ∃ k : Nat, (Y : Int) % 3 = (k : Int) := ⟨Y % 3, by omega⟩
  have hk2 : k ≤ 2 := by omega
  have hY : Y < 256 := by omega
  clear w0 h0
  go_enter Try.func8, Try.ntmps8
  go_upto_if 18 with fail
  rw [hk]
  go_cut [6, 7, 18] (fun s6 s7 _ wx => ∃ (al : Option Addr) (cl : Nat) (ts : List Tg), s6 = .slice al ts.length cl ∧ s7 = .int .i64 (endW a1 k) ∧ Hid (plain ts = endL a1 k) ∧ Hid (TO wx W.heap.size (.slice al ts.length cl) ts) ∧ Hid (Below W.heap.size W wx))
  case first =>
    clear hk hY
    cases a1 with
    | false =>
      obtain ⟨N, hN⟩ : ∃ N : Nat, (63 : Int) + (k : Int) = (N : Int) := ⟨63 + k, by omega⟩
      have HN : Hid (N = 63 + k) := by show _ = _; omega
      have HNI : Hid ((63 : Int) + (k : Int) = (N : Int)) := hN
      have hN65 : N ≤ 65 := by omega
      have hW : Hid ((63 : Int) + (k : Int) ≤ 65) := by show _ ≤ _; omega
      clear hN
      go_wp2_with (at_make; refine wpList_make_full _ rfl _ _ 22 rfl W.heap.size 36 i0 (.agg #[.int .i64 0, .slice none 0 0]) 2 Try.underlying22 hi hz0 hz1 _ _ _ _ N rfl rfl HNI.out HNI.out ?c1 ?c2 ?c3 ?_)
      case c1 => rw [hz2]; omega
      case c2 => unfold maxLen; omega
      case c3 => simp
      intro w1 hown hg
      have hb : Below W.heap.size W w1 := (Below.refl _ _).grown hg (Nat.le_refl _) (fun _ h => by cases h)
      rw [made_opts] at hown
      have HB1 := Lib.hid hb
      have HTO : Hid (TO w1 W.heap.size (.slice (some ⟨W.heap.size, 0, none⟩) (List.replicate N (⟨0, .slice none 0 0, []⟩ : Tg)).length N) (List.replicate N ⟨0, .slice none 0 0, []⟩)) := by
        refine ⟨?_, fun t ht => ?_⟩
        · rw [List.length_replicate]; exact hown
        · obtain ⟨_, rfl⟩ := List.mem_replicate.1 ht
          exact OwnB.nil _ _ _
      have HP : Hid (plain (List.replicate N (⟨0, .slice none 0 0, []⟩ : Tg)) = endL false k) := by show _ = manyL (63 + k); rw [plain_many, HN.out]
      have HLN : Hid ((List.replicate N (⟨0, .slice none 0 0, []⟩ : Tg)).length = N) := by show _ = _; exact List.length_replicate
      generalize List.replicate N (⟨0, .slice none 0 0, []⟩ : Tg) = ts at HTO HP HLN
      clear hown hg hb
      by_cases h2 : k = 2
      · subst h2
        go_wp2_with fail
        go_meet
        exact ⟨_, _, ts, by rw [HLN.out], rfl, HP, HTO, HB1⟩
      · have h2' : ((k : Int) == 2) = false := by rw [beq_eq_false_iff_ne]; omega
        have HE : Hid (endW false k = 0) := by show _ = _; unfold endW; rw [if_neg h2]
        clear h2
        go_wp2_with fail
        go_meet
        exact ⟨_, _, ts, by rw [HLN.out], by rw [HE.out], HP, HTO, HB1⟩
    | true =>
      go_wp2
      go_loopw [6, 8] (fun lv iv wr => ∃ (j : Nat) (ts : List Tg), j ≤ 5 ∧ iv = .int .i64 j ∧ Hid (plain ts = fullL j) ∧ Hid (TO wr W.heap.size lv ts) ∧ Hid (Below W.heap.size W wr)) (fun _ iv _ => 5 - (intOf iv).toNat)
      case atStart => exact ⟨0, [], Nat.zero_le _, rfl, rfl, TO.nil _ _, Below.refl _ _⟩
      case round =>
        obtain ⟨j, ts, hj5, rfl, HP, HTO, HB⟩ := hrel
        have hlen : ts.length = j := by rw [← plain_length, HP.out, fullL_length]
        obtain ⟨al, cl, ev, _, _⟩ := HTO.out.tr.shape
        subst ev
        have hbn := HB.out.size
        by_cases hlt : j < 5
        · obtain ⟨F, hF⟩ : ∃ F : Nat, F = 253 := ⟨_, rfl⟩
          have HF : Hid ((253 : Int) = (F : Int)) := by show _ = _; rw [hF]; rfl
          have HFN := Lib.hid hF
          have hF3 : F ≤ 253 := by omega
          have HLN := Lib.hid hlen
          clear hF hlen
          go_wp2_with (at_make; refine wpList_make_full _ rfl _ _ 23 rfl W.heap.size 5 j0 (.int .u8 0) 1 Try.underlying23 hj hy0 hy1 _ _ _ _ F rfl rfl HF.out HF.out ?c1 ?c2 ?c3 ?_)
          case c1 => rw [hy2]; omega
          case c2 => unfold maxLen; omega
          case c3 => exact hbn
          intro w1 hown hg
          have hb1 : Gr wr w1 := (Below.refl _ _).grown hg (Nat.le_refl _) (fun _ h => by cases h)
          have HOV := Lib.hid (own_zl hown)
          have hal : Gr w1 (w1.alloc (.cells #[.int .i64 (j : Int), .slice (some ⟨wr.heap.size, 0, none⟩) F F] 36)) := (Gr.refl _).alloc _
          have HB2 := Lib.hid (HB.out.trans (Below.mono (hb1.trans hal) hbn))
          have HT2 := Lib.hid ((HTO.out.below hb1).below hal)
          have HO2 := Lib.hid (HOV.out.below hal)
          have HRD := Lib.hid (rd_new w1 [.int .i64 (j : Int), .slice (some ⟨wr.heap.size, 0, none⟩) F F] 36 1 2 rfl (by decide))
          have hts5 : ts.length ≤ 5 := by rw [HLN.out]; exact hj5
          clear hown hg hb1 hal
          go_wp2_with (at_builtin; refine wpList_append_gr _ rfl (.tmp 23) (.tmp 27) 22 rfl W.heap.size 36 i0 _ 2 32 Try.underlying22 hi hz0 hz1 hz2 rfl (by decide) _ _ _ rfl HT2.out.own _ 1 _ rfl HRD.out (one_tag _ rfl) ?p4 (by decide) HB2.out.size ?_)
          case p4 => omega
          intro v' wo ho' hg'
          have HT3 : Hid (TO wo W.heap.size v' (ts ++ [(⟨(j : Int), .slice (some ⟨wr.heap.size, 0, none⟩) F F, zl F⟩ : Tg)])) := TO.more (t := ⟨(j : Int), .slice (some ⟨wr.heap.size, 0, none⟩) F F, zl F⟩) HT2.out HO2.out ho' hg'
          have HB3 := Lib.hid (HB2.out.trans (grown_below HT2.out.own HB2.out.size hg'))
          have HP3 : Hid (plain (ts ++ [(⟨(j : Int), .slice (some ⟨wr.heap.size, 0, none⟩) F F, zl F⟩ : Tg)]) = fullL (j + 1)) := by
            show _ = _
            rw [plain_append, HP.out, fullL_succ, HFN.out]
            rfl
          clear ho' hg'
          go_wp2
          go_roundw
          case rel =>
            have hle : j + 1 ≤ 5 := by omega
            first | exact ⟨j + 1, _, hle, by go_num, HP3, HT3, HB3⟩ | ((repeat apply Exists.intro); exact ⟨⟨j + 1, _, hle, by go_num, HP3, HT3, HB3⟩, rfl⟩)
          case measure => simp [intOf]; omega
        · obtain rfl : j = 5 := by omega
          obtain ⟨M, hM⟩ : ∃ M : Nat, (210 : Int) + (k : Int) = (M : Int) := ⟨210 + k, by omega⟩
          have HMI : Hid ((210 : Int) + (k : Int) = (M : Int)) := hM
          have HMN : Hid (M = 210 + k) := by show _ = _; omega
          have hM3 : M ≤ 212 := by omega
          have HLN := Lib.hid hlen
          obtain ⟨wl, hwl⟩ : ∃ x, x = wr := ⟨_, rfl⟩
          subst hwl
          clear hM hlen
          go_wp2_with (at_make; refine wpList_make_full _ rfl _ _ 23 rfl W.heap.size 5 j0 (.int .u8 0) 1 Try.underlying23 hj hy0 hy1 _ _ _ _ M rfl rfl HMI.out HMI.out ?c1 ?c2 ?c3 ?_)
          case c1 => rw [hy2]; omega
          case c2 => unfold maxLen; omega
          case c3 => exact hbn
          intro w1 hown hg
          have hb1 : Gr wl w1 := (Below.refl _ _).grown hg (Nat.le_refl _) (fun _ h => by cases h)
          have HOV := Lib.hid (own_zl hown)
          have hal : Gr w1 (w1.alloc (.cells #[.int .i64 0, .slice (some ⟨wl.heap.size, 0, none⟩) M M] 36)) := (Gr.refl _).alloc _
          have HB2 := Lib.hid (HB.out.trans (Below.mono (hb1.trans hal) hbn))
          have HT2 := Lib.hid ((HTO.out.below hb1).below hal)
          have HO2 := Lib.hid (HOV.out.below hal)
          have HRD := Lib.hid (rd_new w1 [.int .i64 0, .slice (some ⟨wl.heap.size, 0, none⟩) M M] 36 1 2 rfl (by decide))
          have hts5 : ts.length ≤ 5 := by rw [HLN.out]; exact Nat.le_refl _
          clear hown hg hb1 hal
          go_wp2_with (at_builtin; refine wpList_append_gr _ rfl (.tmp 29) (.tmp 34) 22 rfl W.heap.size 36 i0 _ 2 32 Try.underlying22 hi hz0 hz1 hz2 rfl (by decide) _ _ _ rfl HT2.out.own _ 1 _ rfl HRD.out (one_tag _ rfl) ?p4 (by decide) HB2.out.size ?_)
          case p4 => omega
          intro v' wo ho' hg'
          have HT3 : Hid (TO wo W.heap.size v' (ts ++ [(⟨0, .slice (some ⟨wl.heap.size, 0, none⟩) M M, zl M⟩ : Tg)])) := TO.more (t := ⟨0, .slice (some ⟨wl.heap.size, 0, none⟩) M M, zl M⟩) HT2.out HO2.out ho' hg'
          have HB3 := Lib.hid (HB2.out.trans (grown_below HT2.out.own HB2.out.size hg'))
          have HP3 : Hid (plain (ts ++ [(⟨0, .slice (some ⟨wl.heap.size, 0, none⟩) M M, zl M⟩ : Tg)]) = endL true k) := by
            show _ = longL k
            rw [plain_append, HP.out, HMN.out]
            rfl
          obtain ⟨al2, cl2, ev, _, _⟩ := HT3.out.tr.shape
          subst ev
          clear ho' hg'
          by_cases h2 : k = 2
          · have h2' : ((k : Int) == 2) = true := by rw [h2]; rfl
            have HE : Hid (endW true k = 2) := by show _ = _; rw [h2]; rfl
            clear h2
            go_wp2_with fail
            go_meet
            exact ⟨_, _, _, rfl, by rw [HE.out], HP3, HT3, HB3⟩
          · have h2' : ((k : Int) == 2) = false := by rw [beq_eq_false_iff_ne]; omega
            have HE : Hid (endW true k = 0) := by show _ = _; unfold endW; rw [if_neg h2]
            clear h2
            go_wp2_with fail
            go_meet
            exact ⟨_, _, _, rfl, by rw [HE.out], HP3, HT3, HB3⟩
  case rest =>
    obtain ⟨al, cl, ts, rfl, rfl, HP, HTO, HB⟩ := hcut
    obtain ⟨N, hN⟩ : ∃ N, N = ts.length := ⟨_, rfl⟩
    have HTR : Hid (TR wc (.slice al N cl) N ts) := by rw [hN]; exact HTO.out.tr
    rw [← hN]
    have hN65 : N ≤ 65 := by rw [hN, ← plain_length, HP.out]; exact end_length a1 k hk2
    have HNN := Lib.hid hN
    have hsm : ∀ x ∈ ts, x.l.length ≤ 253 := fun x hx => (end_isT a1 k hk2 x.plain (by rw [← HP.out]; exact List.mem_map.2 ⟨x, hx, rfl⟩)).2.2
    have HSM := Lib.hid hsm
    have EC := Lib.hid (encode_any al N cl ts wc HTR.out (by omega) (fun x hx => Nat.le_trans (hsm x hx) (by decide)))
    have hE : encE (plain ts) = endW a1 k := by rw [HP.out]; exact end_enc a1 k hk2
    obtain ⟨w, hw⟩ : ∃ w, w = endW a1 k := ⟨_, rfl⟩
    rw [← hw] at hE ⊢
    have HW := Lib.hid hw
    have HE := Lib.hid hE
    have HD : Hid ((dec (wireT (plain ts))).2 = w ∧ (w = 0 → (dec (wireT (plain ts))).1 = plain ts)) := by
      show _ ∧ _
      rw [HP.out, hw]
      exact end_dec a1 k hk2
    have HWL : Hid ((wireT (plain ts)).length ≤ 65 * 255) := by
      show _ ≤ _
      refine Nat.le_trans (wireT_le _ 253 fun t ht => ?_) (Nat.mul_le_mul (by rw [plain_length, ← hN]; exact hN65) (Nat.le_refl _))
      obtain ⟨x, hx, rfl⟩ := List.mem_map.1 ht
      exact hsm x hx
    clear hN hsm hE hw HTO
    go_wp2_with fail
    refine EC.out.mono ?_
    rintro e w2 ⟨v2, rfl, hown2, hb2⟩
    rw [HE.out]
    have HB2 := Lib.hid (HB.out.trans (hb2.mono HB.out.size))
    have HT2 := Lib.hid (HTR.out.below hb2)
    obtain ⟨A2, L2, C2, ev, hL2, _, _⟩ := hown2.bs.sl
    subst ev
    have hL0 : w ≠ 0 → L2 = 0 := fun h => by rw [← hL2, encB_no (by rw [HE.out]; exact h)]; rfl
    have HL0 := Lib.hid hL0
    clear hown2 hb2 hL2 hL0 EC
    go_upto_region 16 with fail
    go_cut [63] (fun s63 wx => s63 = .bool false ∧ Hid (Below w2.heap.size w2 wx))
    case first =>
      by_cases hz : w = 0
      · subst hz
        go_wp2_with fail
        refine (AW.out w2).mono ?_
        rintro e w3 ⟨rfl, hb3⟩
        have HB3 := Lib.hid hb3
        clear hb3
        go_wp2_with fail
        go_meet
        exact ⟨rfl, HB3⟩
      · have hz' : (w != 0) = true := by rw [bne_iff_ne]; exact hz
        obtain rfl : L2 = 0 := HL0.out hz
        clear hz
        go_wp2_with fail
        refine (AW.out w2).mono ?_
        rintro e w3 ⟨rfl, hb3⟩
        have HB3 := Lib.hid hb3
        clear hb3
        go_wp2_with fail
        go_meet
        exact ⟨rfl, HB3⟩
    case rest =>
      obtain ⟨rfl, HB3⟩ := hcut
      obtain ⟨wz, hwz⟩ : ∃ x, x = wc := ⟨_, rfl⟩
      subst hwz
      have HBZ := Lib.hid (HB2.out.trans (Below.mono HB3.out HB2.out.size))
      have HTZ := Lib.hid (HT2.out.below HB3.out)
      have hl : ts.length = N := HNN.out.symm
      clear HB2 HT2 HB3 HL0
      go_wp2
      go_loopw [11, 12] (fun bv iv wr => ∃ q : Nat, q ≤ N ∧ iv = .int .i64 q ∧ Hid (OwnB wr wz.heap.size 5 bv (wireT ((plain ts).take q))) ∧ Hid (Below wz.heap.size wz wr)) (fun _ iv _ => N - (intOf iv).toNat)
      case atStart => exact ⟨0, Nat.zero_le _, rfl, OwnB.nil _ _ _, Below.refl _ _⟩
      case round =>
        obtain ⟨q, hq, rfl, HO, HB⟩ := hrel
        have HBN := Lib.hid HB.out.size
        by_cases hlt : q < N
        · obtain ⟨b, o, rfl, hbl, hc⟩ := HTZ.out.cells (by omega)
          obtain ⟨hc0, hc1⟩ := hc q (by omega)
          have HV := Lib.hid (HTZ.out.val q (by omega))
          obtain ⟨A, L, C, hv, hL, hLC, hCm⟩ := HV.out.sl
          rw [hv] at hc1
          have HE1 := Lib.hid hv
          have HL := Lib.hid hL
          have hIT := end_isT a1 k hk2 ts[q].plain (by rw [← HP.out]; exact List.mem_map.2 ⟨_, List.getElem_mem _, rfl⟩)
          obtain ⟨X, hX⟩ : ∃ X : Nat, (X : Int) = ts[q].typ := ⟨ts[q].typ.toNat, by have := hIT.1; unfold Tg.plain at this; simp only at this; omega⟩
          rw [← hX] at hc0
          have hX1 : X ≤ 255 := by have := hIT.2.1; unfold Tg.plain at this; simp only at this; omega
          have hL1 : L ≤ 253 := by have := hIT.2.2; unfold Tg.plain at this; simp only at this; omega
          have HTK := Lib.hid (wireT_head ts q X L (by omega) hX hL)
          have HKL : Hid ((wireT ((plain ts).take q)).length ≤ 16575) := Nat.le_trans (wireT_take_le _ q) HWL.out
          obtain ⟨M, hM⟩ : ∃ M : Nat, (L : Int) + 2 = (M : Int) := ⟨L + 2, by omega⟩
          have HM : Hid (2 + L = M) := by show _ = _; omega
          have W1 : IntKind.i64.wrap ((L : Int) + 2) = (M : Int) := by rw [hM]; exact IntWalk.i64_in _ (by omega)
          have W2 : IntKind.i64.wrap (M : Int) = (M : Int) := IntWalk.i64_in _ (by omega)
          have W3 : IntKind.u8.wrap (X : Int) = (X : Int) := IntWalk.u8_in _ (by omega)
          have W4 : IntKind.u8.wrap (M : Int) = (M : Int) := IntWalk.u8_in _ (by omega)
          have HC0 := Lib.hid hc0
          have HC1 := Lib.hid hc1
          have hM256 : M < 256 := by omega
          clear hv hL hX hc hIT hc0 hc1
          have i0' : (q : Int) < (N : Int) := by omega
          go_wp2_with fail
          refine wp_region_G 18 (Below (wz.heap.size)) (by kernel_rfl) ?_
          -- 0: slot 70
          refine wpG_take (preBelow (wz.heap.size)) (i := 0) (v := ?_) (by kernel_rfl) (some 70) (by kernel_rfl) rfl (by kernel_rfl) (by kernel_rfl) (by kernel_rfl) (fun _ _ _ h => h) (by rfl) (fun w' hw' => ?_) rfl ?_
          rotate_left
          · try have g0 := cell_gr (HB.out.trans ((Below.drew (Below.refl wz.heap.size wr)).trans hw')) HC0.out
            try have g1 := cell_gr (HB.out.trans ((Below.drew (Below.refl wz.heap.size wr)).trans hw')) HC1.out
            go_simp
            with_reducible rfl
          simp only [Act.put, List.setIfInBounds_toArray, List.set_cons_zero, List.set_cons_succ]
          -- 1: slot 71
          refine wpG_take (preBelow (wz.heap.size)) (i := 1) (v := ?_) (by kernel_rfl) (some 71) (by kernel_rfl) rfl (by kernel_rfl) (by kernel_rfl) (by kernel_rfl) (fun _ _ _ h => h) (by rfl) (fun w' hw' => ?_) rfl ?_
          rotate_left
          · try have g0 := cell_gr (HB.out.trans ((Below.drew (Below.refl wz.heap.size wr)).trans hw')) HC0.out
            try have g1 := cell_gr (HB.out.trans ((Below.drew (Below.refl wz.heap.size wr)).trans hw')) HC1.out
            go_simp
            with_reducible rfl
          simp only [Act.put, List.setIfInBounds_toArray, List.set_cons_zero, List.set_cons_succ]
          -- 2: slot 72
          refine wpG_take (preBelow (wz.heap.size)) (i := 2) (v := ?_) (by kernel_rfl) (some 72) (by kernel_rfl) rfl (by kernel_rfl) (by kernel_rfl) (by kernel_rfl) (fun _ _ _ h => h) (by rfl) (fun w' hw' => ?_) rfl ?_
          rotate_left
          · try have g0 := cell_gr (HB.out.trans ((Below.drew (Below.refl wz.heap.size wr)).trans hw')) HC0.out
            try have g1 := cell_gr (HB.out.trans ((Below.drew (Below.refl wz.heap.size wr)).trans hw')) HC1.out
            go_simp
            with_reducible rfl
          simp only [Act.put, List.setIfInBounds_toArray, List.set_cons_zero, List.set_cons_succ]
          -- 3: slot 73
          refine wpG_take (preBelow (wz.heap.size)) (i := 3) (v := ?_) (by kernel_rfl) (some 73) (by kernel_rfl) rfl (by kernel_rfl) (by kernel_rfl) (by kernel_rfl) (fun _ _ _ h => h) (by rfl) (fun w' hw' => ?_) rfl ?_
          rotate_left
          · try have g0 := cell_gr (HB.out.trans ((Below.drew (Below.refl wz.heap.size wr)).trans hw')) HC0.out
            try have g1 := cell_gr (HB.out.trans ((Below.drew (Below.refl wz.heap.size wr)).trans hw')) HC1.out
            go_simp
            with_reducible rfl
          simp only [Act.put, List.setIfInBounds_toArray, List.set_cons_zero, List.set_cons_succ]
          -- 4: slot 74
          refine wpG_take (preBelow (wz.heap.size)) (i := 4) (v := ?_) (by kernel_rfl) (some 74) (by kernel_rfl) rfl (by kernel_rfl) (by kernel_rfl) (by kernel_rfl) (fun _ _ _ h => h) (by rfl) (fun w' hw' => ?_) rfl ?_
          rotate_left
          · try have g0 := cell_gr (HB.out.trans ((Below.drew (Below.refl wz.heap.size wr)).trans hw')) HC0.out
            try have g1 := cell_gr (HB.out.trans ((Below.drew (Below.refl wz.heap.size wr)).trans hw')) HC1.out
            go_simp
            with_reducible rfl
          simp only [Act.put, List.setIfInBounds_toArray, List.set_cons_zero, List.set_cons_succ]
          -- 5: slot 75
          refine wpG_take (preBelow (wz.heap.size)) (i := 5) (v := ?_) (by kernel_rfl) (some 75) (by kernel_rfl) rfl (by kernel_rfl) (by kernel_rfl) (by kernel_rfl) (fun _ _ _ h => h) (by rfl) (fun w' hw' => ?_) rfl ?_
          rotate_left
          · try have g0 := cell_gr (HB.out.trans ((Below.drew (Below.refl wz.heap.size wr)).trans hw')) HC0.out
            try have g1 := cell_gr (HB.out.trans ((Below.drew (Below.refl wz.heap.size wr)).trans hw')) HC1.out
            go_simp
            with_reducible rfl
          simp only [Act.put, List.setIfInBounds_toArray, List.set_cons_zero, List.set_cons_succ]
          -- 6: slot 76
          refine wpG_take (preBelow (wz.heap.size)) (i := 6) (v := ?_) (by kernel_rfl) (some 76) (by kernel_rfl) rfl (by kernel_rfl) (by kernel_rfl) (by kernel_rfl) (fun _ _ _ h => h) (by rfl) (fun w' hw' => ?_) rfl ?_
          rotate_left
          · try have g0 := cell_gr (HB.out.trans ((Below.drew (Below.refl wz.heap.size wr)).trans hw')) HC0.out
            try have g1 := cell_gr (HB.out.trans ((Below.drew (Below.refl wz.heap.size wr)).trans hw')) HC1.out
            go_simp
            with_reducible rfl
          simp only [Act.put, List.setIfInBounds_toArray, List.set_cons_zero, List.set_cons_succ]
          -- 7: slot 77
          refine wpG_take (preBelow (wz.heap.size)) (i := 7) (v := ?_) (by kernel_rfl) (some 77) (by kernel_rfl) rfl (by kernel_rfl) (by kernel_rfl) (by kernel_rfl) (fun _ _ _ h => h) (by rfl) (fun w' hw' => ?_) rfl ?_
          rotate_left
          · try have g0 := cell_gr (HB.out.trans ((Below.drew (Below.refl wz.heap.size wr)).trans hw')) HC0.out
            try have g1 := cell_gr (HB.out.trans ((Below.drew (Below.refl wz.heap.size wr)).trans hw')) HC1.out
            go_simp
            with_reducible rfl
          simp only [Act.put, List.setIfInBounds_toArray, List.set_cons_zero, List.set_cons_succ]
          -- 8: slot 78
          refine wpG_take (preBelow (wz.heap.size)) (i := 8) (v := ?_) (by kernel_rfl) (some 78) (by kernel_rfl) rfl (by kernel_rfl) (by kernel_rfl) (by kernel_rfl) (fun _ _ _ h => h) (by rfl) (fun w' hw' => ?_) rfl ?_
          rotate_left
          · try have g0 := cell_gr (HB.out.trans ((Below.drew (Below.refl wz.heap.size wr)).trans hw')) HC0.out
            try have g1 := cell_gr (HB.out.trans ((Below.drew (Below.refl wz.heap.size wr)).trans hw')) HC1.out
            go_simp
            with_reducible rfl
          simp only [Act.put, List.setIfInBounds_toArray, List.set_cons_zero, List.set_cons_succ]
          -- 9: slot 79
          refine wpG_take (preBelow (wz.heap.size)) (i := 9) (v := ?_) (by kernel_rfl) (some 79) (by kernel_rfl) rfl (by kernel_rfl) (by kernel_rfl) (by kernel_rfl) (fun _ _ _ h => h) (by rfl) (fun w' hw' => ?_) rfl ?_
          rotate_left
          · try have g0 := cell_gr (HB.out.trans ((Below.drew (Below.refl wz.heap.size wr)).trans hw')) HC0.out
            try have g1 := cell_gr (HB.out.trans ((Below.drew (Below.refl wz.heap.size wr)).trans hw')) HC1.out
            go_simp
            with_reducible rfl
          simp only [Act.put, List.setIfInBounds_toArray, List.set_cons_zero, List.set_cons_succ]
          -- 10: slot 80
          refine wpG_take (preBelow (wz.heap.size)) (i := 10) (v := ?_) (by kernel_rfl) (some 80) (by kernel_rfl) rfl (by kernel_rfl) (by kernel_rfl) (by kernel_rfl) (fun _ _ _ h => h) (by rfl) (fun w' hw' => ?_) rfl ?_
          rotate_left
          · try have g0 := cell_gr (HB.out.trans ((Below.drew (Below.refl wz.heap.size wr)).trans hw')) HC0.out
            try have g1 := cell_gr (HB.out.trans ((Below.drew (Below.refl wz.heap.size wr)).trans hw')) HC1.out
            go_simp
            with_reducible rfl
          simp only [Act.put, List.setIfInBounds_toArray, List.set_cons_zero, List.set_cons_succ]
          -- 11: slot 81
          refine wpG_take (preBelow (wz.heap.size)) (i := 11) (v := ?_) (by kernel_rfl) (some 81) (by kernel_rfl) rfl (by kernel_rfl) (by kernel_rfl) (by kernel_rfl) (fun _ _ _ h => h) (by rfl) (fun w' hw' => ?_) rfl ?_
          rotate_left
          · try have g0 := cell_gr (HB.out.trans ((Below.drew (Below.refl wz.heap.size wr)).trans hw')) HC0.out
            try have g1 := cell_gr (HB.out.trans ((Below.drew (Below.refl wz.heap.size wr)).trans hw')) HC1.out
            go_simp
            with_reducible rfl
          simp only [Act.put, List.setIfInBounds_toArray, List.set_cons_zero, List.set_cons_succ]
          -- 12: slot 82
          refine wpG_take (preBelow (wz.heap.size)) (i := 12) (v := ?_) (by kernel_rfl) (some 82) (by kernel_rfl) rfl (by kernel_rfl) (by kernel_rfl) (by kernel_rfl) (fun _ _ _ h => h) (by rfl) (fun w' hw' => ?_) rfl ?_
          rotate_left
          · try have g0 := cell_gr (HB.out.trans ((Below.drew (Below.refl wz.heap.size wr)).trans hw')) HC0.out
            try have g1 := cell_gr (HB.out.trans ((Below.drew (Below.refl wz.heap.size wr)).trans hw')) HC1.out
            go_simp
            with_reducible rfl
          simp only [Act.put, List.setIfInBounds_toArray, List.set_cons_zero, List.set_cons_succ]
          -- 13: slot 83
          refine wpG_take (preBelow (wz.heap.size)) (i := 13) (v := ?_) (by kernel_rfl) (some 83) (by kernel_rfl) rfl (by kernel_rfl) (by kernel_rfl) (by kernel_rfl) (fun _ _ _ h => h) (by rfl) (fun w' hw' => ?_) rfl ?_
          rotate_left
          · try have g0 := cell_gr (HB.out.trans ((Below.drew (Below.refl wz.heap.size wr)).trans hw')) HC0.out
            try have g1 := cell_gr (HB.out.trans ((Below.drew (Below.refl wz.heap.size wr)).trans hw')) HC1.out
            go_simp
            with_reducible rfl
          simp only [Act.put, List.setIfInBounds_toArray, List.set_cons_zero, List.set_cons_succ]
          -- 14: slot 84
          refine wpG_take (preBelow (wz.heap.size)) (i := 14) (v := ?_) (by kernel_rfl) (some 84) (by kernel_rfl) rfl (by kernel_rfl) (by kernel_rfl) (by kernel_rfl) (fun _ _ _ h => h) (by rfl) (fun w' hw' => ?_) rfl ?_
          rotate_left
          · try have g0 := cell_gr (HB.out.trans ((Below.drew (Below.refl wz.heap.size wr)).trans hw')) HC0.out
            try have g1 := cell_gr (HB.out.trans ((Below.drew (Below.refl wz.heap.size wr)).trans hw')) HC1.out
            go_simp
            with_reducible rfl
          simp only [Act.put, List.setIfInBounds_toArray, List.set_cons_zero, List.set_cons_succ]
          refine wpG_one (i := 15) rfl (by kernel_rfl) (by rfl) ?_
          go_simp
          have hA : Below wr.drew.heap.size wr.drew (wr.drew.alloc (.cells #[.int .u8 (X : Int), .int .u8 (M : Int)] 5)) := (Below.refl _ _).alloc (Nat.le_refl _) _
          refine ⟨hA.mono HBN.out, ?_⟩
          have HB2 : Hid (Below wz.heap.size wz (wr.drew.alloc (.cells #[.int .u8 (X : Int), .int .u8 (M : Int)] 5))) := HB.out.drew.trans (hA.mono HBN.out)
          have HO2 := Lib.hid ((HO.out.below (Gr.drew wr)).below hA)
          have HR2 : Hid (Rd (wr.drew.alloc (.cells #[.int .u8 (X : Int), .int .u8 (M : Int)] 5)) 1 (.slice (some ⟨wr.heap.size, 0, none⟩) 2 2) 2 ([UInt8.ofNat X, UInt8.ofNat M].map u8v)) := by
            have := rd_new wr.drew ([UInt8.ofNat X, UInt8.ofNat M].map u8v) 5 2 1 rfl (by decide)
            rw [← two_u8 X M (by omega) hM256] at this
            show Rd _ _ _ _ _
            rw [← two_u8 X M (by omega) hM256]
            exact this
          clear hA
          try simp only [Act.put, List.setIfInBounds_toArray, List.set_cons_zero, List.set_cons_succ]
          refine wpG_one (i := 16) rfl (by kernel_rfl) (by rfl) ?_
          refine wp_append_gr _ (some 86) (.tmp 70) (.tmp 85) 23 rfl wz.heap.size 5 j0 (.int .u8 0) 1 1 Try.underlying23 hj hy0 hy1 hy2 rfl (by decide) _ _ _ rfl HO2.out _ _ _ rfl HR2.out (oneCell_u8 _) ?q1 (by decide) HB2.out.size rfl ?_
          case q1 => have := HKL.out; omega
          intro v3 w3 hown3 hg3
          have hb3 := grown_below HO2.out HB2.out.size hg3
          refine ⟨hb3, ?_⟩
          have HB3 := Lib.hid (HB2.out.trans hb3)
          have HO3 := Lib.hid hown3
          clear hown3 hg3 hb3
          try simp only [Act.put, List.setIfInBounds_toArray, List.set_cons_zero, List.set_cons_succ]
          -- 17: slot 11
          refine wpG_take (preBelow (wz.heap.size)) (i := 17) (v := ?_) (by kernel_rfl) (some 11) (by kernel_rfl) rfl (by kernel_rfl) (by kernel_rfl) (by kernel_rfl) (fun _ _ _ h => h) (by rfl) (fun w' hw' => ?_) rfl ?_
          rotate_left
          · try have g0 := cell_gr (HB.out.trans ((Below.drew (Below.refl wz.heap.size wr)).trans hw')) HC0.out
            try have g1 := cell_gr (HB.out.trans ((Below.drew (Below.refl wz.heap.size wr)).trans hw')) HC1.out
            go_simp
            with_reducible rfl
          simp only [Act.put, List.setIfInBounds_toArray, List.set_cons_zero, List.set_cons_succ]
          refine wpG_done (by kernel_rfl) ?_ _
          have k0 := cell_gr HB3.out HC0.out
          have k1 := cell_gr HB3.out HC1.out
          have HV5 : Hid (Rd w3 1 (.slice A L C) L (ts[q].l.map u8v)) := by
            have := HV.out.below HB3.out
            rw [HE1.out] at this
            unfold Bs at this
            rw [HL.out] at this
            exact this
          clear W1 W2 W3 W4
          go_wp2_with (at_builtin; refine wpList_append_gr _ rfl (.tmp 87) (.tmp 92) 23 rfl wz.heap.size 5 j0 (.int .u8 0) 1 1 Try.underlying23 hj hy0 hy1 hy2 rfl (by decide) _ _ _ rfl HO3.out _ _ _ rfl HV5.out (oneCell_u8 _) ?q1 (by decide) HB3.out.size ?_)
          case q1 => have := HKL.out; omega
          intro v6 w6 hown6 hg6
          have HB6 := Lib.hid (HB3.out.trans (grown_below HO3.out HB3.out.size hg6))
          have HO6 : Hid (OwnB w6 wz.heap.size 5 v6 (wireT ((plain ts).take (q + 1)))) := by
            show OwnB _ _ _ _ _
            rw [HTK.out, HM.out]
            unfold OwnB
            have e1 : (wireT ((plain ts).take q) ++ ([UInt8.ofNat X, UInt8.ofNat M] ++ ts[q].l)).length = (wireT ((plain ts).take q)).length + 2 + L := by
              simp only [List.length_append, List.length_cons, List.length_nil]
              rw [HL.out]; omega
            rw [e1]
            simpa using hown6
          clear hown6 hg6 k0 k1
          go_wp2
          go_roundw
          case rel =>
            have hle : q + 1 ≤ N := by omega
            first | exact ⟨q + 1, hle, by go_num, HO6, HB6⟩ | ((repeat apply Exists.intro); exact ⟨⟨q + 1, hle, by go_num, HO6, HB6⟩, rfl⟩)
          case measure => simp [intOf]; omega
        · obtain rfl : N = q := by omega
          have HT : Hid ((plain ts).take N = plain ts) := by show _ = _; rw [← hl, ← plain_length, List.take_length]
          have HO1 := HO.out
          rw [HT.out] at HO1
          obtain ⟨A, L, C, ev, hL, _, _⟩ := HO1.bs.sl
          subst ev
          have hL2 : L ≤ 16575 := by rw [← hL]; exact HWL.out
          have DC := Lib.hid (decode_any A L C _ hL wr HO1.bs (by omega))
          have HBW := Lib.hid (HBZ.out.trans (Below.mono HB.out HBZ.out.size))
          clear HO1 hL hL2
          go_wp2_with fail
          refine DC.out.mono ?_
          rintro e w7 ⟨v7, rfl, ⟨us, hus, hto⟩, hb7⟩
          rw [HD.out.1]
          have HB7 := Lib.hid (HBW.out.trans (hb7.mono HBW.out.size))
          obtain ⟨a7, c7, ev, _, _⟩ := hto.tr.shape
          subst ev
          by_cases hz : w = 0
          · subst hz
            rw [HD.out.2 rfl] at hus
            have SM := rsame_any a7 al _ N c7 cl us ts w7 hto.tr (HTZ.out.below (Below.trans (Below.mono HB.out (Nat.le_refl _)) (hb7.mono HBN.out)))
            rw [decide_eq_true hus] at SM
            have HSM := Lib.hid SM
            clear hus hto hb7 SM DC
            go_wp2_with fail
            refine HSM.out.mono ?_
            rintro e w8 ⟨rfl, hb8⟩
            have HB8 := Lib.hid (HB7.out.trans (hb8.mono HB7.out.size))
            clear hb8
            go_wp2
            go_ret
            exact ⟨rfl, HB8.out⟩
          · have hz' : (w != 0) = true := by rw [bne_iff_ne]; exact hz
            clear hus hto hb7 DC hz
            go_wp2
            go_ret
            exact ⟨rfl, HB7.out⟩

theorem own : ownKnob Try.prog.godebug = none := by kernel_rfl
theorem laidOut : laidOutB Try.prog = true := by kernel_rfl
set_option maxRecDepth 100000 in
theorem lifted (os : Os) (started : os.Started) (H : Type) (enc : TypeId × Value → H) :
    ReturnsInHanded {} Try.checked os 8 .any (Rows.optsEndsSpec.pre6 enc Try.prog Try.f8 Rows.optsEndsRow.domain false) (Rows.optsEndsSpec.post enc Try.prog Try.f8 false true false false) := by
  refine returnsInHanded_of_change (C := Try.checked) own started (by kernel_rfl) Try.func8
    (ChangeSpec.witness6 (enc := enc) (C := Try.checked) false ⟨#[], #[.int .u8 0, .bool false], []⟩ 8 (by kernel_rfl) (by kernel_rfl) (by kernel_rfl) (by kernel_rfl)) ?_
  intro W base args ds gs before hval0 hW hcnd _
  have hval : ∀ (j : Nat) t v, Try.f8.params[j]? = some t → args[j]? = some v → Value.okWide Try.prog W .any base t v := hval0
  have hW' := hW
  obtain ⟨p, q, hA0, hV, rfl, hfz, hnd⟩ := hW
  have hA : DataW.TrodAll enc Try.prog W 0 (fun _ => true) true Try.f8.params.toList args.toList ds p := hA0
  rw [Try.params8] at hA hval
  obtain ⟨v0, vs0, d0, ds0, p0, q0, hargs, rfl, rfl, h0, r0⟩ := trodAll_cons hA
  obtain ⟨v1, vs1, d1, ds1, p1, q1, rfl, rfl, rfl, h1, r1⟩ := trodAll_cons r0
  obtain ⟨rfl, rfl, rfl⟩ := trodAll_nil r1
  obtain rfl : args = #[v0, v1] := by cases args; simp_all
  obtain ⟨rfl, rfl⟩ := trodVars_none hV
  have k0 := h0
  have lt0 : ∀ x ∈ p0, x.block < W.heap.size := by obtain ⟨m, hm⟩ := k0; exact DataW.trod_lt m _ _ _ hm
  obtain ⟨a0, rfl, rfl, rfl, w0⟩ := open_int Try.underlying5 (hval 0 5 v0 rfl rfl) h0
  have k1 := h1
  have lt1 : ∀ x ∈ p1, x.block < W.heap.size := by obtain ⟨m, hm⟩ := k1; exact DataW.trod_lt m _ _ _ hm
  obtain ⟨a1, rfl, rfl, rfl⟩ := open_bool Try.underlying4 (hval 1 4 v1 rfl rfl) h1
  clear hA0 hval0
  refine (walk W a0 w0 a1).mono fun e W' ⟨he, bel⟩ => ?_
  subst he
  exact ⟨_, rfl, _, _, _, [], _, [], hW', trodAll_mk1 (shut_bool Try.underlying4 _), (trodAll_cons_mk (Below.trod laidOut (by kernel_rfl) (of_decide_eq_true (by kernel_rfl)) k0 bel lt0) (trodAll_cons_mk (Below.trod laidOut (by kernel_rfl) (of_decide_eq_true (by kernel_rfl)) k1 bel lt1) trodAll_mk0)), rfl, bel.frame _, fun h => by cases h⟩
theorem over : Rows.optsEndsRow.holds Try.pinned (OpenSpec.ofChange Rows.optsEndsSpec) :=
  OpenClaim.holds_of_wide 8 Try.f8 rfl rfl rfl rfl rfl rfl rfl ⟨rfl, rfl, rfl, rfl, rfl⟩ rfl rfl rfl rfl rfl (by kernel_rfl) Try.func8 (by kernel_rfl)
    (of_decide_eq_true (by kernel_rfl)) (by unfold Func.isWrapper; first | (rw [if_pos (by decide +kernel)]; kernel_rfl) | (rw [if_neg (by decide +kernel)]; exact ⟨rfl, rfl⟩))
    (fun os started H enc _ => lifted os started H enc)
/-- The statement. -/
theorem proved : Rows.OptsEndsSaid := over
end Go.Proofs.Yteemcckfhadkhaa.optsEnds
