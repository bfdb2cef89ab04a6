/-
  For every row of options (the first 70, each with the first 260 bytes of its data) that is encoded, every type and byte: what opts.Encode, opts.Decode and opts.Find tell is new memory: writing there turns nothing else (conciergelaw08.OptsOwn answers true). No conditions.
-/
import Derived.Test.YteemcckfhadkhaaOpN
import Derived.Test.YteemcckfhadkhaaOpB
import Derived.Test.YteemcckfhadkhaaOpG
import Derived.Test.YteemcckfhadkhaaOpJ
import Derived.Test.YteemcckfhadkhaaOpK
import Derived.Test.YteemcckfhadkhaaOpR
import Derived.Test.YteemcckfhadkhaaOpenO
import Derived.ProofKit
import Derived.OpenShut
import Derived.ChangeOld
namespace Go.Proofs.Yteemcckfhadkhaa.optsOwn
open Go.ChangeShapes Go.WideShapes Go.ChangeAt Go.RowKit O
set_option linter.unusedVariables false
set_option linter.unusedSimpArgs false

set_option maxRecDepth 100000 in
set_option maxHeartbeats 8000000 in
theorem walk (W : World) (a0 : Option Addr) (n0 c0 : Nat) (ts0 : List Tg) (b0 : TR W (.slice a0 n0 c0) n0 ts0) (a1 : Int) (w1 : (Lit.int .i64 a1).wf = true) (q0 : Int) (wq : (Lit.int .u8 q0).wf = true) :
    Calls Try.prog 9 #[.slice a0 n0 c0, .int .i64 a1, .int .u8 q0] W fun e w' => e = .returned (.bool true) ∧ Below W.heap.size W w' := by
  obtain ⟨z, rfl⟩ := u8_of_wf wq
  have AW := Lib.hid awake_any
  have FW := Lib.hid (few_any a0 n0 c0 ts0 W b0)
  have hlen := fewT_len ts0
  have hsm : ∀ x ∈ fewT ts0, x.l.length ≤ 1000000 := fun x hx => Nat.le_trans (fewT_small ts0 x hx) (by decide)
  have hz8 := UInt8.toNat_lt z
  clear b0 w1 wq
  go_enter Try.func9, Try.ntmps9
  go_wp2_with fail
  refine FW.out.mono ?_
  rintro e w1 ⟨a2, c2, rfl, htr, hb1⟩
  generalize fewT ts0 = ts at htr hlen hsm ⊢
  obtain ⟨n, hn⟩ : ∃ n, n = ts.length := ⟨_, rfl⟩
  rw [← hn] at htr ⊢
  have HB1 := Lib.hid hb1
  have HT1 := Lib.hid htr
  have E1 := Lib.hid (encode_any a2 n c2 ts w1 HT1.out (by omega) hsm)
  have hn70 : n ≤ 70 := by omega
  clear hb1 htr hsm hn hlen FW
  go_wp2_with fail
  refine E1.out.mono ?_
  rintro e w2 ⟨v2, rfl, hown2, hb2⟩
  have HB2 := Lib.hid (HB1.out.trans (hb2.mono HB1.out.size))
  have HT2 := Lib.hid (HT1.out.below hb2)
  have HV2 := Lib.hid hown2.bs
  obtain ⟨A2, L2, C2, ev, hL2, _, _⟩ := hown2.bs.sl
  subst ev
  have HL2 := Lib.hid hL2
  obtain ⟨E, hEE⟩ : ∃ E, E = encE (plain ts) := ⟨_, rfl⟩
  rw [← hEE]
  have HEE := Lib.hid hEE
  clear hown2 hb2 hL2 hEE E1 HT1
  by_cases hz : E = 0
  · have hz' : (E != 0) = false := by rw [hz]; rfl
    have hE0 : encE (plain ts) = 0 := by rw [← HEE.out]; exact hz
    have HDW := Lib.hid (dec_wire hE0)
    obtain ⟨B, hB⟩ : ∃ B, B = encB (plain ts) := ⟨_, rfl⟩
    have hBW : B = wireT (plain ts) := by rw [hB, encB_yes hE0]
    have HBW := Lib.hid hBW
    rw [← hB] at HV2 HL2
    have hLs : L2 ≤ 1488 := by rw [← HL2.out, hB]; exact encB_le _
    have hfew := (encE_zero hE0).1
    have hsm2 := (encE_zero hE0).2.1
    rw [plain_length] at hfew
    have s0 := run_string_of (P := Try.prog) 23 9 5 Try.underlying23 Try.underlying5 Try.underlying9 HV2.out
    have DC := Lib.hid (decode_any A2 L2 C2 B HL2.out w2 HV2.out (by omega))
    have HSM2 := Lib.hid hsm2
    clear hz hE0 hB hBW hsm2
    go_wp2_with fail
    refine DC.out.mono ?_
    rintro e w3 ⟨v3, rfl, ⟨us, hus, hto⟩, hb3⟩
    rw [HBW.out, HDW.out] at hus
    have HUS : Hid (plain us = plain ts) := hus
    have HB3 := Lib.hid (HB2.out.trans (hb3.mono HB2.out.size))
    have HQ3 := Lib.hid hb3
    have HTO := Lib.hid hto
    obtain ⟨N, hN⟩ : ∃ N, N = us.length := ⟨_, rfl⟩
    obtain ⟨a3, c3, ev, _, _⟩ := hto.tr.shape
    rw [← hN] at ev
    subst ev
    have hN64 : N ≤ 64 := by
      have h1 := congrArg List.length HUS.out
      rw [plain_length, plain_length] at h1
      omega
    have HNN := Lib.hid hN
    have HTR3 : Hid (TR w3 (.slice a3 N c3) N us) := by have h := hto.tr; rwa [← hN] at h
    have hsm3 : ∀ x ∈ us, x.l.length ≤ 140737488351232 := fun x hx => Nat.le_trans (HSM2.out x.plain (by rw [← HUS.out]; exact List.mem_map.2 ⟨x, hx, rfl⟩)).2.2 (by decide)
    have F1 := Lib.hid (find_any a3 N c3 us a1 w3 HTR3.out (by omega) hsm3)
    generalize (dec B).2 = eg
    clear hus hto hb3 hN hsm3 s0 DC
    go_wp2_with fail
    refine F1.out.mono ?_
    rintro e w4 ⟨v4, rfl, hown4, hb4⟩
    obtain ⟨A4, L4, C4, ev, hL4, _, _⟩ := hown4.bs.sl
    subst ev
    obtain ⟨K, hK⟩ : ∃ K, K = findK us a1 := ⟨_, rfl⟩
    obtain ⟨fl, hfl⟩ : ∃ fl, fl = findL us a1 := ⟨_, rfl⟩
    rw [← hK]
    rw [← hfl] at hown4 hL4
    have hq4 : Gr w4 (w4.alloc (.cells #[.int .i64 K, .slice A4 L4 C4] 36)) := (Gr.refl _).alloc _
    have hs3 : w2.heap.size ≤ w3.heap.size := HQ3.out.size
    have hs4 : w3.heap.size ≤ w4.heap.size := hb4.size
    have hs5 : (w4.alloc (.cells #[.int .i64 K, .slice A4 L4 C4] 36)).heap.size = w4.heap.size + 1 := World.size_alloc _ _
    have HQ5 := Lib.hid (hb4.trans (Below.mono hq4 hs4))
    have HG5 : Hid ((w4.alloc (.cells #[.int .i64 K, .slice A4 L4 C4] 36)).heap[w4.heap.size]? = some (.cells #[.int .i64 K, .slice A4 L4 C4] 36 (0, 0))) := heap_alloc_last _ _
    have HO5 := Lib.hid (hown4.below hq4)
    have HOWN4 := Lib.hid hown4
    have HL4 := Lib.hid hL4
    have HV5 := Lib.hid (HV2.out.below (HQ3.out.trans (HQ5.out.mono hs3)))
    have hL4m := own_max hown4
    obtain ⟨wb, hwb⟩ : ∃ x, x = w4.alloc (.cells #[.int .i64 K, .slice A4 L4 C4] 36) := ⟨_, rfl⟩
    rw [← hwb] at hs5 HQ5 HG5 HO5 HV5
    have R1 := Lib.hid (rdecode_any A2 L2 C2 B HL2.out wb HV5.out (by omega))
    have HWB := Lib.hid hwb
    clear hK hfl hown4 hb4 hq4 hwb hL4 F1
    go_wp2_with fail
    rw [← HWB.out]
    clear HWB
    refine R1.out.mono ?_
    rintro e w6 ⟨v6, rfl, ⟨vs, hvs, hto⟩, hb6⟩
    rw [HBW.out, HDW.out] at hvs
    have HVS : Hid (plain vs = plain ts) := hvs
    obtain ⟨M, hM⟩ : ∃ M, M = vs.length := ⟨_, rfl⟩
    obtain ⟨a6, c6, ev, _, _⟩ := hto.tr.shape
    rw [← hM] at ev
    subst ev
    have HMM := Lib.hid hM
    have HVO := Lib.hid hto
    have hs6 : wb.heap.size ≤ w6.heap.size := hb6.size
    have HQ6 := Lib.hid (HQ5.out.trans (hb6.mono HQ5.out.size))
    have HG6 := Lib.hid (heap_below HG5.out hb6)
    obtain ⟨g4, hg4, hg4b⟩ := pick (w := w6) HOWN4.out HL4.out
    have HF0 : Hid (FI w6 w6 g4 w3.heap.size (.slice A4 L4 C4) L4) := ⟨Only.refl _ _, fl, HL4.out, HO5.out.below hb6⟩
    have hg4s : (L4 = 0 ∧ w6.heap.size ≤ g4 ∨ A4 = some ⟨g4, 0, none⟩ ∧ g4 < w4.heap.size) := by
      rcases hg4 with ⟨h1, h2⟩ | h
      · exact .inl ⟨h1, by omega⟩
      · exact .inr h
    have HG4S := Lib.hid hg4s
    generalize (dec B).2 = eh
    clear hvs hto hb6 hM hg4 hg4s R1 HO5 HG5 HV5
    go_wp2
    go_loopw [16] (fun iv wr => ∃ i : Nat, i ≤ L4 ∧ iv = .int .i64 (i : Int) ∧ Hid (FI w6 wr g4 w3.heap.size (.slice A4 L4 C4) L4)) (fun iv _ => L4 - (intOf iv).toNat)
    case atStart => exact ⟨0, Nat.zero_le _, rfl, HF0⟩
    case round =>
      clear HF0
      obtain ⟨i, him, rfl, HF⟩ := hrel
      have ho : Only g4 w6 wr := HF.out.1
      have hgn : g4 ≠ w4.heap.size := by rcases HG4S.out with ⟨_, h⟩ | ⟨_, h⟩ <;> omega
      have rq : wr.heap[w4.heap.size]? = some (.cells #[.int .i64 K, .slice A4 L4 C4] 36 (0, 0)) := by rw [ho.heap _ (by omega) (Ne.symm hgn)]; exact HG6.out
      obtain ⟨k0, k1⟩ := copy_cells rq
      by_cases hlt : i < L4
      · obtain rfl : A4 = some ⟨g4, 0, none⟩ := by
          rcases HG4S.out with ⟨h, _⟩ | ⟨h, _⟩
          · omega
          · exact h
        obtain ⟨⟨u, hu⟩, hf⟩ := FI.at HF.out hlt
        have HNX := Lib.hid (FI.next (x := z) HF.out hlt)
        clear HF ho rq
        go_wp2
        go_roundw
        case rel => first | exact ⟨i + 1, by omega, by go_num, HNX⟩ | ((repeat apply Exists.intro); exact ⟨⟨i + 1, by omega, by go_num, HNX⟩, rfl⟩)
        case measure => simp [intOf]; omega
      · obtain rfl : L4 = i := by omega
        obtain ⟨wl, hwl⟩ : ∃ x, x = wr := ⟨_, rfl⟩
        subst hwl
        have HBL := Lib.hid (ho.below _ _ hg4b HQ6.out)
        have hsl : w6.heap.size ≤ wl.heap.size := ho.size
        have HVL := Lib.hid (HVO.out.same (fun q h1 h2 => ho.heap q h2 (by rcases HG4S.out with ⟨_, h⟩ | ⟨_, h⟩ <;> omega)))
        have HUL := Lib.hid (HTO.out.below HBL.out)
        have hE : decide (plain us = plain vs) = true := decide_eq_true (by rw [HUS.out, HVS.out])
        have SM := rsame_any a3 a6 N M c3 c6 us vs wl (HTR3.out.below HBL.out) (by have h := HVL.out.tr; rwa [← HMM.out] at h)
        rw [hE] at SM
        have HSM := Lib.hid SM
        clear HF ho rq hE SM HG4S HG6 HVO
        go_wp2_with fail
        refine HSM.out.mono ?_
        rintro e w9 ⟨rfl, hb9⟩
        have hs9 : wl.heap.size ≤ w9.heap.size := hb9.size
        have HB9 := Lib.hid (HBL.out.trans (hb9.mono (by omega)))
        have HV9 := Lib.hid (HVL.out.below hb9)
        have HM0 : Hid (MM w9 w9 w2.heap.size w3.heap.size (.slice a3 N c3) us) := MM.start (HUL.out.below hb9) (fun t ht g hg => (World.ownsRow.lt (HTO.out.vals t ht) g hg).2)
        clear hb9 k0 k1 HVL HUL HBL HSM
        go_wp2
        go_loopw [17] (fun iv wr => ∃ i : Nat, i ≤ N ∧ iv = .int .i64 (i : Int) ∧ Hid (MM w9 wr w2.heap.size w3.heap.size (.slice a3 N c3) us)) (fun iv _ => N - (intOf iv).toNat)
        case atStart => exact ⟨0, Nat.zero_le _, rfl, HM0⟩
        case round =>
          clear HM0
          obtain ⟨i, hiN, rfl, HM⟩ := hrel
          by_cases hlt : i < N
          · have hiu : i < us.length := by rw [← HNN.out]; exact hlt
            obtain ⟨wo, hwo⟩ : ∃ x, x = wr := ⟨_, rfl⟩
            subst hwo
            obtain ⟨A, L, C, hv, hL, _, hCm⟩ := (HTO.out.vals us[i] (List.getElem_mem _)).bs.sl
            have HVI := Lib.hid hv
            have hLm : L ≤ 9223372036854775807 := by
              have h := HTO.out.vals us[i] (List.getElem_mem _)
              rw [hv] at h
              exact own_max h
            clear hv hL hCm
            go_wp2
            go_loopw [18] (fun kv wr => ∃ k : Nat, k ≤ L ∧ kv = .int .i64 (k : Int) ∧ Hid (MM w9 wr w2.heap.size w3.heap.size (.slice a3 N c3) us)) (fun kv _ => L - (intOf kv).toNat)
            case atStart => exact ⟨0, Nat.zero_le _, rfl, HM⟩
            case round =>
              clear HM
              obtain ⟨k, hkL, rfl, HM⟩ := hrel
              obtain ⟨b, o, rfl, hc⟩ := HM.out.cells (by omega)
              have k1 := hc i hiu
              rw [HVI.out] at k1
              by_cases hlt2 : k < L
              · obtain ⟨g, rfl⟩ : ∃ g, A = some ⟨g, 0, none⟩ := by
                  obtain ⟨lt, hlt3⟩ := HM.out.vals us[i] (List.getElem_mem _)
                  rw [HVI.out] at hlt3
                  obtain ⟨g, h, _, _⟩ := own_at hlt3 (by omega)
                  exact ⟨g, h⟩
                obtain ⟨⟨u, hu⟩, hf⟩ := HM.out.byte (List.getElem_mem hiu) HVI.out hlt2
                have HNX := Lib.hid (HM.out.step (k := k) (List.getElem_mem hiu) HVI.out z)
                clear HM hc
                go_wp2
                go_roundw
                case rel => first | exact ⟨k + 1, by omega, by go_num, HNX⟩ | ((repeat apply Exists.intro); exact ⟨⟨k + 1, by omega, by go_num, HNX⟩, rfl⟩)
                case measure => simp [intOf]; omega
              · obtain rfl : L = k := by omega
                clear hc
                go_wp2
                go_roundw
                case rel => first | exact ⟨i + 1, by omega, by go_num, HM⟩ | ((repeat apply Exists.intro); exact ⟨⟨i + 1, by omega, by go_num, HM⟩, rfl⟩)
                case measure => simp [intOf]; omega
          · obtain rfl : N = i := by omega
            obtain ⟨wf, hwf⟩ : ∃ x, x = wr := ⟨_, rfl⟩
            subst hwf
            have HBF : Hid (Below w2.heap.size w2 wf) := (HQ3.out.trans (HB9.out.mono hs3)).trans HM.out.low
            have HBW2 := Lib.hid (HB2.out.trans (HBF.out.mono HB2.out.size))
            have HVF := Lib.hid (HV9.out.same (fun q h1 h2 => HM.out.high q (by omega) h2))
            have hE : decide (plain ts = plain vs) = true := decide_eq_true HVS.out.symm
            have SM := rsame_any a2 a6 n M c2 c6 ts vs wf (HT2.out.below HBF.out) (by have h := HVF.out.tr; rwa [← HMM.out] at h)
            rw [hE] at SM
            have HSM := Lib.hid SM
            have s1 := run_string_of (P := Try.prog) 23 9 5 Try.underlying23 Try.underlying5 Try.underlying9 (HV2.out.below HBF.out)
            clear hE SM HM
            go_wp2_with fail
            refine HSM.out.mono ?_
            rintro e w10 ⟨rfl, hb10⟩
            have HB10 := Lib.hid (HBW2.out.trans (hb10.mono HBW2.out.size))
            clear hb10 s1
            go_wp2_with fail
            refine (AW.out w10).mono ?_
            rintro e w11 ⟨rfl, hb11⟩
            have HB11 := Lib.hid (HB10.out.trans (hb11.mono HB10.out.size))
            clear hb11
            go_wp2
            go_ret
            exact ⟨rfl, HB11.out⟩
  · have hz' : (E != 0) = true := by rw [bne_iff_ne]; exact hz
    have h0 : L2 = 0 := by rw [← HL2.out, encB_no (by rw [← HEE.out]; exact hz)]; rfl
    subst h0
    clear hz
    go_wp2_with fail
    refine (AW.out w2).mono ?_
    rintro e w3 ⟨rfl, hb3⟩
    have HB3 := Lib.hid (HB2.out.trans (hb3.mono HB2.out.size))
    clear hb3
    go_wp2
    go_ret
    exact ⟨rfl, HB3.out⟩

theorem own : ownKnob Try.prog.godebug = none := by kernel_rfl
theorem laidOut : laidOutB Try.prog = true := by kernel_rfl
set_option maxRecDepth 100000 in
theorem lifted (os : Os) (started : os.Started) (H : Type) (enc : TypeId × Value → H) :
    ReturnsInHanded {} Try.checked os 9 .any (Rows.optsOwnSpec.pre6 enc Try.prog Try.f9 Rows.optsOwnRow.domain false) (Rows.optsOwnSpec.post enc Try.prog Try.f9 false true false false) := by
  refine returnsInHanded_of_change (C := Try.checked) own started (by kernel_rfl) Try.func9
    (ChangeSpec.witness6 (enc := enc) (C := Try.checked) false ⟨#[], #[.slice none 0 0, .int .i64 0, .int .u8 0], []⟩ 8 (by kernel_rfl) (by kernel_rfl) (by kernel_rfl) (by kernel_rfl)) ?_
  intro W base args ds gs before hval0 hW hcnd _
  have hval : ∀ (j : Nat) t v, Try.f9.params[j]? = some t → args[j]? = some v → Value.okWide Try.prog W .any base t v := hval0
  have hW' := hW
  obtain ⟨p, q, hA0, hV, rfl, hfz, hnd⟩ := hW
  have hA : DataW.TrodAll enc Try.prog W 0 (fun _ => true) true Try.f9.params.toList args.toList ds p := hA0
  rw [Try.params9] at hA hval
  obtain ⟨v0, vs0, d0, ds0, p0, q0, hargs, rfl, rfl, h0, r0⟩ := trodAll_cons hA
  obtain ⟨v1, vs1, d1, ds1, p1, q1, rfl, rfl, rfl, h1, r1⟩ := trodAll_cons r0
  obtain ⟨v2, vs2, d2, ds2, p2, q2, rfl, rfl, rfl, h2, r2⟩ := trodAll_cons r1
  obtain ⟨rfl, rfl, rfl⟩ := trodAll_nil r2
  obtain rfl : args = #[v0, v1, v2] := by cases args; simp_all
  obtain ⟨rfl, rfl⟩ := trodVars_none hV
  have k0 := h0
  have lt0 : ∀ x ∈ p0, x.block < W.heap.size := by obtain ⟨m, hm⟩ := k0; exact DataW.trod_lt m _ _ _ hm
  obtain ⟨a0, n0, c0, ts0, rfl, b0⟩ := O.open_opts Try.underlying22 Try.underlying36 ⟨rfl, rfl⟩ Try.underlying3 Try.underlying23 Try.underlying5 ⟨by kernel_rfl, by kernel_rfl, by kernel_rfl, by kernel_rfl⟩ (hval 0 22 v0 rfl rfl) h0
  have k1 := h1
  have lt1 : ∀ x ∈ p1, x.block < W.heap.size := by obtain ⟨m, hm⟩ := k1; exact DataW.trod_lt m _ _ _ hm
  obtain ⟨a1, rfl, rfl, rfl, w1⟩ := open_int Try.underlying3 (hval 1 3 v1 rfl rfl) h1
  have k2 := h2
  have lt2 : ∀ x ∈ p2, x.block < W.heap.size := by obtain ⟨m, hm⟩ := k2; exact DataW.trod_lt m _ _ _ hm
  obtain ⟨a2, rfl, rfl, rfl, w2⟩ := open_int Try.underlying5 (hval 2 5 v2 rfl rfl) h2
  clear hA0 hval0
  refine (walk W a0 n0 c0 ts0 b0 a1 w1 a2 w2).mono fun e W' ⟨he, bel⟩ => ?_
  subst he
  exact ⟨_, rfl, _, _, _, [], _, [], hW', trodAll_mk1 (shut_bool Try.underlying4 _), (trodAll_cons_mk (Below.trod laidOut (by kernel_rfl) (of_decide_eq_true (by kernel_rfl)) k0 bel lt0) (trodAll_cons_mk (Below.trod laidOut (by kernel_rfl) (of_decide_eq_true (by kernel_rfl)) k1 bel lt1) (trodAll_cons_mk (Below.trod laidOut (by kernel_rfl) (of_decide_eq_true (by kernel_rfl)) k2 bel lt2) trodAll_mk0))), rfl, bel.frame _, fun h => by cases h⟩
theorem over : Rows.optsOwnRow.holds Try.pinned (OpenSpec.ofChange Rows.optsOwnSpec) :=
  OpenClaim.holds_of_wide 9 Try.f9 rfl rfl rfl rfl rfl rfl rfl ⟨rfl, rfl, rfl, rfl, rfl⟩ rfl rfl rfl rfl rfl (by kernel_rfl) Try.func9 (by kernel_rfl)
    (of_decide_eq_true (by kernel_rfl)) (by unfold Func.isWrapper; first | (rw [if_pos (by decide +kernel)]; kernel_rfl) | (rw [if_neg (by decide +kernel)]; exact ⟨rfl, rfl⟩))
    (fun os started H enc _ => lifted os started H enc)
/-- The statement. -/
theorem proved : Rows.OptsOwnSaid := over
end Go.Proofs.Yteemcckfhadkhaa.optsOwn
