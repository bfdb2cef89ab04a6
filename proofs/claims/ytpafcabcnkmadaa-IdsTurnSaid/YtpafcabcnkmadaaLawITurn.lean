/-
  Numbers that were given are taken again in that order, behind those that were never taken, whatever order they are given in (the first 60; conciergelaw11.IdsTurn answers true). No condition.
-/
import Derived.Test.YtpafcabcnkmadaaIdY
import Derived.Test.YtpafcabcnkmadaaOpenI
import Derived.ProofKit
import Derived.OpenShut
import Derived.ChangeOld
namespace Go.Proofs.Ytpafcabcnkmadaa.idsTurn
open Go.ChangeShapes Go.WideShapes Go.ChangeAt Go.RowKit
open Go.Proofs.Ytpafcabcnkmadaa.Id
set_option linter.unusedVariables false
set_option linter.unusedSimpArgs false

/-- Whoever comes next stands in the row that is wanted. -/
structure Tn (N q : Int) (L : List Int) (tk : Int) (S : Al) : Prop where
  ok : OkA S
  low : S.low = 1
  high : S.high = N
  quiet : S.quiet = q
  seq : S.row ++ S.rest.map (·.1) = L
  rdy : ∀ p ∈ S.rest, p.2 ≤ tk + q
theorem Tn.len {N q tk : Int} {L : List Int} {S : Al} (h : Tn N q L tk S) (hN : N ≤ 12) : L.length ≤ 12 := by
  have h1 := h.ok.sum
  rw [← h.seq, List.length_append, List.length_map]
  rw [h.low, h.high] at h1
  omega
theorem Tn.give {N q tk : Int} {L : List Int} {S : Al} (h : Tn N q L tk S) {id : Int} (hu : id ∈ S.used) (ht : okT tk) : Tn N q (L ++ [id]) (tk + 1) (give S id tk).1 := by
  have hok := (give_ok h.ok id tk)
  rw [give_yes hu ht] at hok ⊢
  refine ⟨hok.1, h.low, h.high, h.quiet, ?_, fun p hp => ?_⟩
  · show S.row ++ (S.rest ++ [(id, tk + S.quiet)]).map (·.1) = L ++ [id]
    rw [← h.seq]
    simp
  · rcases List.mem_append.1 hp with hp | hp
    · have := h.rdy p hp; omega
    · obtain rfl := List.mem_singleton.1 hp
      show tk + S.quiet ≤ _
      rw [h.quiet]; omega
theorem Tn.take {N q tk : Int} {x : Int} {L : List Int} {S : Al} (h : Tn N q (x :: L) tk S) (ht : okT (tk + q)) : (take S (tk + q)).2 = (x, 0) ∧ Tn N q L tk (take S (tk + q)).1 := by
  obtain ⟨h1, h2, h3⟩ := take_turn h.seq h.rdy ht
  obtain ⟨k1, k2, k3, k4⟩ := take_ok h.ok (tk + q)
  refine ⟨h1, k1, k2.trans h.low, k3.trans h.high, k4.trans h.quiet, ?_, fun p hp => ?_⟩
  · rw [h2, h3]; simp
  · rw [h3] at hp; cases hp
set_option maxRecDepth 20000 in
set_option maxHeartbeats 8000000 in
theorem walk (W : World) (a0 : Int) (w0 : (Lit.int .u8 a0).wf = true) (a1 : Int) (w1 : (Lit.int .u8 a1).wf = true) (a2 : Option Addr) (n2 c2 : Nat) (l2 : List UInt8) (hn2 : l2.length = n2) (b2 : Bs W (.slice a2 n2 c2) l2) :
    Calls Try.prog 7 #[.int .u8 a0, .int .u8 a1, .slice a2 n2 c2] W fun e w' => e = .returned (.bool true) ∧ Below W.heap.size W w' := by
  obtain ⟨i0, hi0, hz0, hz1, hz2⟩ := info_parts infoI
  have h0 : 0 ≤ a0 ∧ a0 ≤ 255 := by simpa [Lit.wf, IntKind.min, IntKind.max, IntKind.signed, IntKind.bits] using w0
  have h1 : 0 ≤ a1 ∧ a1 ≤ 255 := by simpa [Lit.wf, IntKind.min, IntKind.max, IntKind.signed, IntKind.bits] using w1
  have hr : 0 ≤ a0 % 12 ∧ a0 % 12 ≤ 11 := by omega
  obtain ⟨N, hN⟩ : ∃ N, 1 + a0 % 12 = N := ⟨_, rfl⟩
  have hNb : 1 ≤ N ∧ N ≤ 12 := by omega
  obtain ⟨H, hH⟩ : ∃ H : Nat, N / 2 = (H : Int) := ⟨(N / 2).toNat, by omega⟩
  have hHb : (H : Int) * 2 ≤ N := by omega
  have HL : Hid (0 ≤ a1 ∧ a1 ≤ 255 ∧ 1 ≤ N ∧ N ≤ 12 ∧ (H : Int) * 2 ≤ N) := ⟨h1.1, h1.2, hNb.1, hNb.2, hHb⟩
  have hset : okSet 1 N a1 := by unfold okSet topT; omega
  have HNE := Lib.hid hN
  have X0 : Hid (wrap64 a0 = a0) := wrap64_in (by omega) (by omega)
  have X1 : Hid (wrap64 a1 = a1) := wrap64_in (by omega) (by omega)
  have X2 : Hid (a0.tmod 12 = a0 % 12) := Int.tmod_eq_emod_of_nonneg h0.1
  have X3 : Hid (wrap64 (1 + a0 % 12) = N) := by show _ = _; rw [wrap64_in (by omega) (by omega), hN]
  have X4 : Hid (N.tdiv 2 = (H : Int)) := by show _ = _; rw [Int.tdiv_eq_ediv_of_nonneg (by omega), hH]
  have X5 : Hid (wrap64 (H : Int) = (H : Int)) := wrap64_in (by omega) (by omega)
  have HA := Lib.hid (fun w => awake_any w)
  have HN := Lib.hid (fun w hb => new_la W 1 N a1 w hset hb)
  have HBS := Lib.hid b2
  have HNL := Lib.hid hn2
  obtain ⟨_, _, es0, hcc, hcm⟩ := b2.shape
  have hn63 : (n2 : Int) ≤ 9223372036854775807 := by
    simp only [Value.slice.injEq] at es0
    obtain ⟨_, z0, rfl⟩ := es0
    unfold maxLen at hcm
    omega
  have HN63 := Lib.hid hn63
  clear hr w0 w1 es0 hcc hcm hn2 b2 hn63 h0 hN hH hNb hHb
  have x0 := X0.out
  have x1 := X1.out
  have x2 := X2.out
  have x3 := X3.out
  have x4 := X4.out
  have x5 := X5.out
  go_enter Try.func7, Try.ntmps7
  go_wp2_with fail
  refine (HA.out _).mono ?_
  rintro e w1 ⟨rfl, hb⟩
  have HB := Lib.hid hb
  clear hb HA
  go_wp2_with fail
  try rw [HNE.out]
  refine (HN.out _ HB.out).mono ?_
  rintro e w2 ⟨g, rfl, m, hla, _⟩
  have HS : Hid (∃ m S, LA W g m w2 S ∧ OkA S ∧ S.low = 1 ∧ S.high = N ∧ S.quiet = a1 ∧ S.rest = [] ∧ S.row = numbers (1 + ((0 : Nat) : Int)) N) := ⟨m, _, hla, hla.al.ok, rfl, rfl, rfl, rfl, by simp [born]⟩
  clear hla HN HB hset
  go_wp2_with fail
  try rw [X5.out]
  clear x0 x1 x2 x3 x4 x5 X0 X2 X3 X4
  go_loopw [11] (fun iv wr => ∃ i : Nat, i ≤ H ∧ iv = .int .i64 (i : Int) ∧ ∃ m S, LA W g m wr S ∧ OkA S ∧ S.low = 1 ∧ S.high = N ∧ S.quiet = a1 ∧ S.rest = [] ∧ S.row = numbers (1 + (i : Int)) N) (fun iv _ => H - (intOf iv).toNat)
  case atStart => exact ⟨0, Nat.zero_le _, rfl, HS.out⟩
  case round =>
    clear HS
    obtain ⟨i, hin, rfl, m, S, hla, hok, hlo, hhi, hq, hre, hro⟩ := hrel
    have HLA := Lib.hid hla
    have HRE := Lib.hid hre
    have HRO := Lib.hid hro
    have HSS : Hid (OkA S ∧ S.low = 1 ∧ S.high = N ∧ S.quiet = a1) := ⟨hok, hlo, hhi, hq⟩
    clear hla hre hro hok hlo hhi hq
    by_cases hlt : i < H
    · have hT := take_rising HRE.out HRO.out (by have := HL.out; omega) (t := 0) (by decide)
      have HT := take_la HLA.out 0
      have hok2 := (take_ok HSS.out.1 0).1
      rw [hT] at HT hok2
      have HTT := Lib.hid HT
      have HOK2 := Lib.hid hok2
      have hle : i + 1 ≤ H := by omega
      have X6 : Hid (wrap64 ((i : Int) + 1) = (i : Int) + 1) := wrap64_in (by omega) (by have := HL.out; omega)
      have x6 := X6.out
      clear hT HT hok2
      go_wp2_with fail
      refine HTT.out.mono ?_
      rintro e w3 ⟨rfl, m3, h3⟩
      have HL3 := Lib.hid h3
      clear h3 HTT
      go_wp2_with fail
      go_roundw
      case rel =>
        have e3 : 1 + ((i + 1 : Nat) : Int) = 1 + (i : Int) + 1 := by omega
        first
          | exact ⟨i + 1, hle, by go_num, m3, _, HL3.out, HOK2.out, HSS.out.2.1, HSS.out.2.2.1, HSS.out.2.2.2, HRE.out, by rw [e3]⟩
          | ((repeat apply Exists.intro); exact ⟨⟨i + 1, hle, by go_num, m3, _, HL3.out, HOK2.out, HSS.out.2.1, HSS.out.2.2.1, HSS.out.2.2.2, HRE.out, by rw [e3]⟩, rfl⟩)
      case measure =>
        clear x6 h1
        try rw [X6.out]
        simp [intOf]
        omega
    · have hie : i = H := by omega
      have hni : ¬ (i : Int) < (H : Int) := by omega
      obtain ⟨F, hF⟩ : ∃ F : Int, F = (H : Int) + 1 := ⟨_, rfl⟩
      have x7 : wrap64 ((H : Int) + 1) = F := by rw [hF]; exact wrap64_in (by omega) (by have := HL.out; omega)
      have HF := Lib.hid hF
      have HROF : Hid (S.row = numbers F N) := by show _ = _; rw [HRO.out, HF.out, hie, Int.add_comm]
      clear hF HRO hie
      go_wp2_with fail
      go_loopw [14, 15] (fun lv iv wr => ∃ j : Nat, (j : Int) ≤ N - F + 1 ∧ iv = .int .i64 (F + (j : Int)) ∧ LA W g m wr S ∧ Beside wr g m lv ∧ wr.ownsRow W.heap.size 3 1 lv ((numbers F N).take j).length (ints ((numbers F N).take j))) (fun _ iv _ => (N + 1 - intOf iv).toNat)
      case atStart => exact ⟨0, by have := HL.out; have := HF.out; omega, by simp, HLA.out, Beside.nil _ _ _ _ _, World.ownsRow_nil _ _ _ _⟩
      case round =>
        clear x7
        obtain ⟨j, hj, rfl, hla, has, how⟩ := hrel
        have HLB := Lib.hid hla
        have HAS := Lib.hid has
        have HOW := Lib.hid how
        clear hla has how
        by_cases hlt2 : F + (j : Int) ≤ N
        · have hjl : j < (numbers F N).length := by rw [numbers_length]; omega
          have hget : (numbers F N)[j] = F + (j : Int) := by simp [numbers]
          have HTK : Hid ((numbers F N).take (j + 1) = (numbers F N).take j ++ [F + (j : Int)]) := by show _ = _; rw [List.take_add_one, List.getElem?_eq_getElem hjl, hget]; rfl
          obtain ⟨L, hL⟩ : ∃ L, L = (numbers F N).take j := ⟨_, rfl⟩
          have hLl : L.length ≤ 12 := by rw [hL, List.length_take]; have h2 := HL.out; have h3 := HF.out; rw [numbers_length]; omega
          rw [← hL] at HOW HTK
          obtain ⟨M, hM⟩ : ∃ M, M = L.length := ⟨_, rfl⟩
          rw [← hM] at HOW hLl
          have HM := Lib.hid hM
          have hle : ((j + 1 : Nat) : Int) ≤ N - F + 1 := by omega
          have X8 : Hid (wrap64 (F + (j : Int) + 1) = F + (j : Int) + 1) := wrap64_in (by have := HF.out; omega) (by have := HL.out; omega)
          have e9 : F + ((j + 1 : Nat) : Int) = F + (j : Int) + 1 := by omega
          have HE9 := Lib.hid e9
          clear hjl hget hL hM e9
          obtain ⟨al, cl, rfl, _, _⟩ := (own_rd HOW.out).shape
          have hlow : W.heap.size ≤ wr.heap.size := HLB.out.low.size
          have HBY : Hid ((M + 1) * 8 ≤ 140737488355328) := by show _ ≤ _; omega
          have HMX : Hid (M + 1 ≤ maxLen) := by show _ ≤ _; unfold maxLen; omega
          have hba : Below wr.heap.size wr (wr.alloc (.cells #[.int .i64 (F + (j : Int))] 3)) := (Below.refl _ _).alloc (Nat.le_refl _) _
          have HLO : Hid (W.heap.size ≤ (wr.alloc (.cells #[.int .i64 (F + (j : Int))] 3)).heap.size) := by show _ ≤ _; exact Nat.le_trans hlow (Below.size hba)
          have HLBA := Lib.hid (HLB.out.gr hba)
          have HASA := Lib.hid (HAS.out.gr hba)
          have HOWA := Lib.hid (ownsRow_below HOW.out hba)
          clear hba hlow
          have x8 := X8.out
          go_wp2_with (refine wpList_append_where _ rfl (.tmp 62) (.tmp 64) 41 rfl W.heap.size 3 i0 _ 1 8 Try.underlying41 hi0 hz0 hz1 hz2 rfl (by decide) _ _ _ rfl HOWA.out ⟨wr.heap.size, 0, none⟩ 1 1 [.int .i64 (F + (j : Int))] rfl rfl (cells_new wr [.int .i64 (F + (j : Int))] 3) (one_int _) HMX.out HBY.out HLO.out ?_)
          intro v' w5 ho5 hg5 hb5
          have HO5 : Hid (w5.ownsRow W.heap.size 3 1 v' ((numbers F N).take (j + 1)).length (ints ((numbers F N).take (j + 1)))) := by
            show w5.ownsRow _ _ _ _ _ _
            rw [HTK.out, List.length_append, ← HM.out, ints_append]
            exact ho5
          have HL5 : Hid (LA W g m w5 S) := HLBA.out.grown hg5 fun k hk => ⟨(HASA.out k hk).2, (own_blk HOWA.out k hk).1⟩
          have HA5 : Hid (Beside w5 g m v') := fun k hk => by
            refine ⟨own_blk_lt HO5.out hk, ?_⟩
            rcases hb5 k hk with h6 | h6
            · exact (HASA.out k h6).2
            · intro h7
              have h8 := HLBA.out.al.am.lt k h7
              first
                | omega
                | (simp at h8; omega)
          obtain ⟨al5, cl5, e5, _, _⟩ := (own_rd HO5.out).shape
          subst e5
          clear ho5 hg5 hb5 HLBA HASA HOWA HLO HMX HBY
          go_wp2_with fail
          go_roundw
          case rel =>
            first
              | exact ⟨j + 1, hle, (by rw [HE9.out]; try rw [X8.out]), HL5.out, HA5.out, HO5.out⟩
              | ((repeat apply Exists.intro); exact ⟨⟨j + 1, hle, (by rw [HE9.out]; try rw [X8.out]), HL5.out, HA5.out, HO5.out⟩, rfl⟩)
          case measure =>
            clear x8 h1
            try rw [X8.out]
            simp [intOf]
            omega
        · have HTK : Hid ((numbers F N).take j = numbers F N) := by show _ = _; rw [List.take_of_length_le]; rw [numbers_length]; omega
          rw [HTK.out] at HOW
          have HT0 : Hid (Tn N a1 (numbers F N) 1 S) := ⟨HSS.out.1, HSS.out.2.1, HSS.out.2.2.1, HSS.out.2.2.2, by rw [HRE.out, HROF.out]; simp, fun p hp => by rw [HRE.out] at hp; cases hp⟩
          have h63 := HN63.out
          go_wp2_with fail
          go_loopw [14, 16, 17] (fun lv tv iv wr => ∃ (i : Nat) (tk : Int) (L : List Int) (m : Am) (S : Al), i ≤ n2 ∧ i ≤ 60 ∧ iv = .int .i64 (i : Int) ∧ tv = .int .i64 tk ∧ 1 ≤ tk ∧ tk ≤ (i : Int) + 1 ∧ LA W g m wr S ∧ Beside wr g m lv ∧ wr.ownsRow W.heap.size 3 1 lv L.length (ints L) ∧ Tn N a1 L tk S) (fun _ _ iv _ => n2 - (intOf iv).toNat)
          case atStart => exact ⟨0, 1, _, m, S, Nat.zero_le _, Nat.zero_le _, rfl, rfl, Int.le_refl _, by omega, HLB.out, HAS.out, HOW.out, HT0.out⟩
          case round =>
            clear HLB HAS HOW HT0 HLA HRE HROF HSS HTK hni hlt hlt2 hin hj
            obtain ⟨i, tk, L, m, S, hin, hi60, rfl, rfl, ht1, ht2, hla, has, how, htn⟩ := hrel
            have HLB := Lib.hid hla
            have HAS := Lib.hid has
            have HOW := Lib.hid how
            have HTN := Lib.hid htn
            have HTK : Hid (1 ≤ tk ∧ tk ≤ (i : Int) + 1) := ⟨ht1, ht2⟩
            have hLl := htn.len HL.out.2.2.2.1
            obtain ⟨M, hM⟩ : ∃ M, M = L.length := ⟨_, rfl⟩
            rw [← hM] at HOW hLl
            have HM := Lib.hid hM
            have HM12 := Lib.hid hLl
            clear hla has how htn hM ht1 ht2 hLl
            obtain ⟨al, cl, rfl, _, _⟩ := (own_rd HOW.out).shape
            obtain ⟨B, hB⟩ : ∃ B, B = (decide (i < n2) && (decide (i < 60) && decide (0 < H))) := ⟨_, rfl⟩
            have HBB := Lib.hid hB
            clear hB
            go_upto_region 21 with fail
            go_cut [77] (fun s77 wx => s77 = .bool B ∧ wx = wr)
            case first =>
              by_cases hlt : i < n2
              · by_cases hl60 : i < 60
                · by_cases hh0 : 0 < H
                  · have HBE : Hid (B = true) := by show _ = _; rw [HBB.out]; simp [hlt, hl60, hh0]
                    go_wp2_with fail
                    go_meet
                    exact ⟨by rw [HBE.out], rfl⟩
                  · have HBE : Hid (B = false) := by show _ = _; rw [HBB.out]; simp [hh0]
                    obtain rfl : H = 0 := by omega
                    go_wp2_with fail
                    go_meet
                    exact ⟨by rw [HBE.out], rfl⟩
                · have HBE : Hid (B = false) := by show _ = _; rw [HBB.out]; simp [hl60]
                  go_wp2_with fail
                  go_meet
                  exact ⟨by rw [HBE.out], rfl⟩
              · have HBE : Hid (B = false) := by show _ = _; rw [HBB.out]; simp [hlt]
                go_wp2_with fail
                go_meet
                exact ⟨by rw [HBE.out], rfl⟩
            case rest =>
              obtain ⟨hs77, hwc⟩ := hcut
              subst hs77 hwc
              cases B with
              | true =>
                have hBt := HBB.out.symm
                simp only [Bool.and_eq_true, decide_eq_true_eq] at hBt
                obtain ⟨hlt, hl60, hh0⟩ := hBt
                obtain ⟨ob, oo, ea, hobl, hocell⟩ := HBS.out.cells (by rw [HNL.out]; omega)
                subst ea
                have hoc := hocell i (by rw [HNL.out]; exact hlt)
                have hoc2 := cell_gr HLB.out.low hoc
                obtain ⟨d, hd⟩ : ∃ d : Int, d = ((l2[i]'(by rw [HNL.out]; exact hlt)).toNat : Int) := ⟨_, rfl⟩
                have hdb : 0 ≤ d ∧ d < 256 := by rw [hd]; have := UInt8.toNat_lt (l2[i]'(by rw [HNL.out]; exact hlt)); omega
                rw [← hd] at hoc2
                have hdm : 0 ≤ d % (H : Int) ∧ d % (H : Int) < (H : Int) := ⟨Int.emod_nonneg _ (by omega), Int.emod_lt_of_pos _ (by omega)⟩
                obtain ⟨id, hid⟩ : ∃ id, id = 1 + d % (H : Int) := ⟨_, rfl⟩
                have hH0 : ¬ (H : Int) = 0 := by omega
                have Y0 : Hid (wrap64 d = d) := wrap64_in (by omega) (by omega)
                have Y1 : Hid (d.tmod (H : Int) = d % (H : Int)) := Int.tmod_eq_emod_of_nonneg hdb.1
                have hHL := HL.out
                have Y2 : Hid (wrap64 (1 + d % (H : Int)) = id) := by show _ = _; rw [wrap64_in (by omega) (by omega), hid]
                have Y3 : Hid (wrap64 (d % (H : Int)) = d % (H : Int)) := wrap64_in (by omega) (by omega)
                have HID : Hid (1 + d % (H : Int) = id) := hid.symm
                have Y6 : Hid (wrap64 id = id) := by show _ = _; rw [hid]; exact wrap64_in (by omega) (by omega)
                have Y4 : Hid (wrap64 ((i : Int) + 1) = (i : Int) + 1) := wrap64_in (by omega) (by omega)
                have Y5 : Hid (wrap64 (tk + 1) = tk + 1) := wrap64_in (by have := HTK.out; omega) (by have := HTK.out; omega)
                have hle : i + 1 ≤ n2 := by omega
                have hle60 : i + 1 ≤ 60 := by omega
                have hokt : okT tk := by unfold okT topT; have := HTK.out; omega
                have htb1 : 1 ≤ tk + 1 := by have := HTK.out; omega
                have htb2 : tk + 1 ≤ ((i + 1 : Nat) : Int) + 1 := by have := HTK.out; omega
                have htb3 : tk ≤ ((i + 1 : Nat) : Int) + 1 := by have := HTK.out; omega
                have G := give_lb HLB.out id tk
                clear hocell hoc hobl hd hdm hdb hid hHL hh0 hl60
                have y0 := Y0.out
                have y1 := Y1.out
                have y2 := Y2.out
                have y3 := Y3.out
                by_cases hu : id ∈ S.used
                · have e2 : (give S id tk).2 = 0 := by rw [give_yes hu hokt]
                  rw [e2] at G
                  have HG := Lib.hid G
                  have HTN2 := Lib.hid (HTN.out.give hu hokt)
                  clear G e2 hu hokt
                  go_wp2_with fail
                  try rw [HID.out]
                  try rw [Y6.out]
                  clear y0 y1 y2 y3
                  refine HG.out.mono ?_
                  rintro e w5 ⟨rfl, m5, hl5, hs5⟩
                  have HL5 := Lib.hid hl5
                  have HA5 := Lib.hid (HAS.out.stp hs5)
                  have HO5 := Lib.hid (own_stp HOW.out HAS.out hs5)
                  clear hl5 hs5 HG
                  have hlow : W.heap.size ≤ w5.heap.size := HL5.out.low.size
                  have HBY : Hid ((M + 1) * 8 ≤ 140737488355328) := by show _ ≤ _; have := HM12.out; omega
                  have HMX : Hid (M + 1 ≤ maxLen) := by show _ ≤ _; unfold maxLen; have := HM12.out; omega
                  have hba : Below w5.heap.size w5 (w5.alloc (.cells #[.int .i64 id] 3)) := (Below.refl _ _).alloc (Nat.le_refl _) _
                  have HLO : Hid (W.heap.size ≤ (w5.alloc (.cells #[.int .i64 id] 3)).heap.size) := by show _ ≤ _; exact Nat.le_trans hlow (Below.size hba)
                  have HLBA := Lib.hid (HL5.out.gr hba)
                  have HASA := Lib.hid (HA5.out.gr hba)
                  have HOWA := Lib.hid (ownsRow_below HO5.out hba)
                  clear hba hlow HL5 HA5 HO5
                  go_wp2_with (refine wpList_append_where _ rfl (.tmp 93) (.tmp 95) 41 rfl W.heap.size 3 i0 _ 1 8 Try.underlying41 hi0 hz0 hz1 hz2 rfl (by decide) _ _ _ rfl HOWA.out ⟨w5.heap.size, 0, none⟩ 1 1 [.int .i64 id] rfl rfl (cells_new w5 [.int .i64 id] 3) (one_int _) HMX.out HBY.out HLO.out ?_)
                  intro v' w6 ho6 hg6 hb6
                  have HO6 : Hid (w6.ownsRow W.heap.size 3 1 v' (L ++ [id]).length (ints (L ++ [id]))) := by
                    show w6.ownsRow _ _ _ _ _ _
                    rw [List.length_append, ← HM.out, ints_append]
                    exact ho6
                  have HL6 : Hid (LA W g m5 w6 (give S id tk).1) := HLBA.out.grown hg6 fun k hk => ⟨(HASA.out k hk).2, (own_blk HOWA.out k hk).1⟩
                  have HA6 : Hid (Beside w6 g m5 v') := fun k hk => by
                    refine ⟨own_blk_lt HO6.out hk, ?_⟩
                    rcases hb6 k hk with h6 | h6
                    · exact (HASA.out k h6).2
                    · intro h7
                      have h8 := HLBA.out.al.am.lt k h7
                      first
                        | omega
                        | (simp at h8; omega)
                  obtain ⟨al5, cl5, e5, _, _⟩ := (own_rd HO6.out).shape
                  subst e5
                  clear ho6 hg6 hb6 HLBA HASA HOWA HLO HMX HBY
                  go_wp2_with fail
                  try rw [Y5.out]
                  try rw [Y4.out]
                  go_roundw
                  case rel =>
                    first
                      | exact ⟨i + 1, tk + 1, _, m5, _, hle, hle60, by go_num, rfl, htb1, htb2, HL6.out, HA6.out, HO6.out, HTN2.out⟩
                      | ((repeat apply Exists.intro); exact ⟨⟨i + 1, tk + 1, _, m5, _, hle, hle60, by go_num, rfl, htb1, htb2, HL6.out, HA6.out, HO6.out, HTN2.out⟩, rfl⟩)
                  case measure =>
                    clear h1 h63
                    try rw [Y4.out]
                    simp [intOf]
                    omega
                · have e2 : (give S id tk) = (S, 112) := give_no hu hokt
                  rw [e2] at G
                  have HG := Lib.hid G
                  clear G e2 hu hokt
                  go_wp2_with fail
                  try rw [HID.out]
                  try rw [Y6.out]
                  clear y0 y1 y2 y3
                  refine HG.out.mono ?_
                  rintro e w5 ⟨rfl, m5, hl5, hs5⟩
                  have HL5 := Lib.hid hl5
                  have HA5 := Lib.hid (HAS.out.stp hs5)
                  have HO5 := Lib.hid (own_stp HOW.out HAS.out hs5)
                  have HO6 : Hid (w5.ownsRow W.heap.size 3 1 (.slice al M cl) L.length (ints L)) := by show w5.ownsRow _ _ _ _ _ _; rw [← HM.out]; exact HO5.out
                  clear hl5 hs5 HG HO5
                  go_wp2_with fail
                  try rw [Y4.out]
                  go_roundw
                  case rel =>
                    have ht1 := HTK.out.1
                    first
                      | exact ⟨i + 1, tk, _, m5, _, hle, hle60, by go_num, rfl, ht1, htb3, HL5.out, HA5.out, HO6.out, HTN.out⟩
                      | ((repeat apply Exists.intro); exact ⟨⟨i + 1, tk, _, m5, _, hle, hle60, by go_num, rfl, ht1, htb3, HL5.out, HA5.out, HO6.out, HTN.out⟩, rfl⟩)
                  case measure =>
                    clear h1 h63
                    try rw [Y4.out]
                    simp [intOf]
                    omega
              | false =>
                clear HBB
                have HMX12 := HM12.out
                go_wp2_with fail
                go_loopw [19] (fun iv wx => ∃ (k : Nat) (m : Am) (S : Al), k ≤ M ∧ iv = .int .i64 (k : Int) ∧ LA W g m wx S ∧ Beside wx g m (.slice al M cl) ∧ wx.ownsRow W.heap.size 3 1 (.slice al M cl) M (ints L) ∧ Tn N a1 (L.drop k) tk S) (fun iv _ => M - (intOf iv).toNat)
                case atStart => exact ⟨0, m, S, Nat.zero_le _, rfl, HLB.out, HAS.out, HOW.out, by rw [List.drop_zero]; exact HTN.out⟩
                case round =>
                  clear HLB HAS HOW HTN
                  obtain ⟨k, m, S, hk, rfl, hla, has, how, htn⟩ := hrel
                  have HLB := Lib.hid hla
                  have HAS := Lib.hid has
                  have HOW := Lib.hid how
                  clear hla has how
                  by_cases hlt : k < M
                  · have hkl : k < L.length := by rw [← HM.out]; exact hlt
                    obtain ⟨x, hx⟩ : ∃ x, x = L[k] := ⟨_, rfl⟩
                    have hdr : L.drop k = x :: L.drop (k + 1) := by rw [List.drop_eq_getElem_cons hkl, hx]
                    rw [hdr] at htn
                    have hokt : okT (tk + a1) := by unfold okT topT; have := HTK.out; have := HL.out; omega
                    obtain ⟨ht1, ht2⟩ := htn.take hokt
                    have HTN2 := Lib.hid ht2
                    have G := take_lb HLB.out (tk + a1)
                    have e1 : (take S (tk + a1)).2.1 = x := by rw [ht1]
                    have e2 : (take S (tk + a1)).2.2 = 0 := by rw [ht1]
                    rw [e1, e2] at G
                    have HG := Lib.hid G
                    obtain ⟨bl, capl, curl, evl, _, hbl, _, _, _, hcl⟩ := own_open HOW.out (.inl (by omega))
                    have hle : k + 1 ≤ M := by omega
                    have HX := Lib.hid hx
                    have hcl2 : curl.take (L.length * 1) = ints L := by rw [← HM.out]; exact hcl
                    have HCX : Hid (∀ w' : World, w'.heap[bl]? = some (.cells curl.toArray 3 (0, 0)) → w'.cell? ⟨bl, k, none⟩ = some (.int .i64 x)) := fun w' hw => by rw [HX.out]; exact own_int_at hw hcl2 k hkl
                    have HBL := Lib.hid hbl
                    simp only [Value.slice.injEq] at evl
                    obtain ⟨eal, _, ecl⟩ := evl
                    subst eal ecl
                    have Y0 : Hid (wrap64 (tk + a1) = tk + a1) := wrap64_in (by have := HTK.out; have := HL.out; omega) (by have := HTK.out; have := HL.out; omega)
                    have HBN : Hid (∀ k' ∈ blk (.slice (some ⟨bl, 0, none⟩) M cl), k' < wr.heap.size ∧ k' ∉ Fm g m) := HAS.out
                    clear hx hdr hokt ht1 ht2 G e1 e2 hbl hcl hcl2 htn h63
                    have x1 := X1.out
                    have htk : 1 ≤ tk ∧ tk ≤ 61 := by have := HTK.out; omega
                    have ha1 : 0 ≤ a1 ∧ a1 ≤ 255 := ⟨HL.out.1, HL.out.2.1⟩
                    go_wp2_with fail
                    try rw [Y0.out]
                    refine HG.out.mono ?_
                    rintro e w5 ⟨rfl, m5, hl5, hs5⟩
                    have HL5 := Lib.hid hl5
                    have HA5 := Lib.hid (HAS.out.stp hs5)
                    have HO5 := Lib.hid (own_stp HOW.out HAS.out hs5)
                    have hbl5 : w5.heap[bl]? = some (.cells curl.toArray 3 (0, 0)) := (hs5.tr.block bl (HBN.out bl (by simp [blk_slice])).1 (HBN.out bl (by simp [blk_slice])).2).trans HBL.out
                    have hc5 := HCX.out w5 hbl5
                    clear hl5 hs5 HG hbl5 x1
                    go_wp2_with fail
                    go_roundw
                    case rel =>
                      first
                        | exact ⟨k + 1, m5, _, hle, by go_num, HL5.out, HA5.out, HO5.out, HTN2.out⟩
                        | ((repeat apply Exists.intro); exact ⟨⟨k + 1, m5, _, hle, by go_num, HL5.out, HA5.out, HO5.out, HTN2.out⟩, rfl⟩)
                    case measure =>
                      simp [intOf]
                      omega
                  · go_wp2
                    go_ret
                    exact ⟨rfl, HLB.out.low⟩
theorem own : ownKnob Try.prog.godebug = none := by kernel_rfl
theorem laidOut : laidOutB Try.prog = true := by kernel_rfl
set_option maxRecDepth 100000 in
theorem lifted (os : Os) (started : os.Started) (H : Type) (enc : TypeId × Value → H) :
    ReturnsInHanded {} Try.checked os 7 .any (Rows.idsTurnSpec.pre6 enc Try.prog Try.f7 Rows.idsTurnRow.domain false) (Rows.idsTurnSpec.post enc Try.prog Try.f7 false true false false) := by
  refine returnsInHanded_of_change (C := Try.checked) own started (by kernel_rfl) Try.func7
    (ChangeSpec.witness6 (enc := enc) (C := Try.checked) false ⟨#[], #[.int .u8 0, .int .u8 0, .slice none 0 0], []⟩ 8 (by kernel_rfl) (by kernel_rfl) (by kernel_rfl) (by kernel_rfl)) ?_
  intro W base args ds gs before hval0 hW hcnd _
  have hval : ∀ (j : Nat) t v, Try.f7.params[j]? = some t → args[j]? = some v → Value.okWide Try.prog W .any base t v := hval0
  have hW' := hW
  obtain ⟨p, q, hA0, hV, rfl, hfz, hnd⟩ := hW
  have hA : DataW.TrodAll enc Try.prog W 0 (fun _ => true) true Try.f7.params.toList args.toList ds p := hA0
  rw [Try.params7] at hA hval
  obtain ⟨v0, vs0, d0, ds0, p0, q0, hargs, rfl, rfl, h0, r0⟩ := trodAll_cons hA
  obtain ⟨v1, vs1, d1, ds1, p1, q1, rfl, rfl, rfl, h1, r1⟩ := trodAll_cons r0
  obtain ⟨v2, vs2, d2, ds2, p2, q2, rfl, rfl, rfl, h2, r2⟩ := trodAll_cons r1
  obtain ⟨rfl, rfl, rfl⟩ := trodAll_nil r2
  obtain rfl : args = #[v0, v1, v2] := by cases args; simp_all
  obtain ⟨rfl, rfl⟩ := trodVars_none hV
  have k0 := h0
  have lt0 : ∀ x ∈ p0, x.block < W.heap.size := by obtain ⟨m, hm⟩ := k0; exact DataW.trod_lt m _ _ _ hm
  obtain ⟨a0, rfl, rfl, rfl, w0⟩ := open_int Try.underlying5 (hval 0 5 v0 rfl rfl) h0
  have k1 := h1
  have lt1 : ∀ x ∈ p1, x.block < W.heap.size := by obtain ⟨m, hm⟩ := k1; exact DataW.trod_lt m _ _ _ hm
  obtain ⟨a1, rfl, rfl, rfl, w1⟩ := open_int Try.underlying5 (hval 1 5 v1 rfl rfl) h1
  have k2 := h2
  have lt2 : ∀ x ∈ p2, x.block < W.heap.size := by obtain ⟨m, hm⟩ := k2; exact DataW.trod_lt m _ _ _ hm
  obtain ⟨a2, n2, c2, l2, rfl, hn2, b2⟩ := open_bytes Try.underlying56 Try.underlying5 (by kernel_rfl) (hval 2 56 v2 rfl rfl) h2
  clear hA0 hval0
  refine (walk W a0 w0 a1 w1 a2 n2 c2 l2 hn2 b2).mono fun e W' ⟨he, bel⟩ => ?_
  subst he
  exact ⟨_, rfl, _, _, _, [], _, [], hW', trodAll_mk1 (shut_bool Try.underlying4 _), (trodAll_cons_mk (Below.trod laidOut (by kernel_rfl) (of_decide_eq_true (by kernel_rfl)) k0 bel lt0) (trodAll_cons_mk (Below.trod laidOut (by kernel_rfl) (of_decide_eq_true (by kernel_rfl)) k1 bel lt1) (trodAll_cons_mk (Below.trod laidOut (by kernel_rfl) (of_decide_eq_true (by kernel_rfl)) k2 bel lt2) trodAll_mk0))), rfl, bel.frame _, fun h => by cases h⟩
theorem over : Rows.idsTurnRow.holds Try.pinned (OpenSpec.ofChange Rows.idsTurnSpec) :=
  OpenClaim.holds_of_wide 7 Try.f7 rfl rfl rfl rfl rfl rfl rfl ⟨rfl, rfl, rfl, rfl, rfl⟩ rfl rfl rfl rfl rfl (by kernel_rfl) Try.func7 (by kernel_rfl)
    (of_decide_eq_true (by kernel_rfl)) (by unfold Func.isWrapper; first | (rw [if_pos (by decide +kernel)]; kernel_rfl) | (rw [if_neg (by decide +kernel)]; exact ⟨rfl, rfl⟩))
    (fun os started H enc _ => lifted os started H enc)
/-- The statement. -/
theorem proved : Rows.IdsTurnSaid := over
end Go.Proofs.Ytpafcabcnkmadaa.idsTurn
