/-
  Along any events (the first 60), from any state, this layer is up and down in turn: of tlu and tld none comes twice (conciergelaw14.FsmBalance answers true). No condition.
-/
import Derived.Test.YtmhiajjnkcneoaaFsO
import Derived.Test.YtmhiajjnkcneoaaFsH
import Derived.Test.YtmhiajjnkcneoaaOpenE
import Derived.ProofKit
import Derived.OpenShut
import Derived.ChangeOld
import Derived.Deep.Cut
namespace Go.Proofs.Ytmhiajjnkcneoaa.fsmBalance
open Go.ChangeShapes Go.WideShapes Go.ChangeAt Go.RowKit
open Go.Proofs.Ytmhiajjnkcneoaa.Fs
set_option linter.unusedVariables false
set_option linter.unusedSimpArgs false
theorem infoE : (Try.prog.info? 23).map (fun i => (i.zero, i.size, i.bytes)) = some (some (.int .i64 0), 1, 8) := by kernel_rfl
theorem few (s : Int) (es : List Int) (h : es.length ≤ 60) : (wlk s es).2.1.length ≤ 180 := by
  unfold wlk
  split
  · have := run_short es s; omega
  · simp
/-- The events that the law looks at. -/
theorem cut_events {W : World} {a : Option Addr} {n c : Nat} {l : List Int} (hn : l.length = n) (h : Rd W 1 (.slice a n c) n (l.map (Value.int .i64))) (h60 : 60 < n) :
    ∃ ao, (∀ w', (Instr.slice 31 (.slice a n c) none (some (.int .i64 60)) none).run Try.prog w' = .ok (.slice ao 60 c) w') ∧ AR W (.slice ao 60 c) (l.take 60) ∧ (l.take 60).length = 60 := by
  obtain ⟨i0, hi, hz0, hz1, hz2⟩ := info_parts infoE
  obtain ⟨ao, h1, h2⟩ := slice_upto Try.underlying31 hi hz1 h .i64 60 60 rfl (by omega)
  have hl : (l.take 60).length = 60 := by rw [List.length_take]; omega
  refine ⟨ao, h1, ?_, hl⟩
  unfold AR ints
  rw [hl, List.map_take]
  exact h2
set_option maxRecDepth 20000 in
set_option maxHeartbeats 8000000 in
theorem walk (W : World) (s : Int) (ws : (Lit.int .i64 s).wf = true) (a : Option Addr) (n c : Nat) (l : List Int) (hn : l.length = n) (h : Rd W 1 (.slice a n c) n (l.map (Value.int .i64))) :
    Calls Try.prog 10 #[.int .i64 s, .slice a n c] W fun x w' => x = .returned (.bool true) ∧ Below W.heap.size W w' := by
  have HA := Lib.hid (fun w => awake_any w)
  clear ws
  by_cases h60 : n ≤ 60
  · have HE : Hid (AR W (.slice a n c) l) := by unfold Hid AR; rw [hn]; exact h
    have HL : Hid (l.length ≤ 60) := by show _ ≤ _; omega
    have hcm : n ≤ c ∧ c ≤ maxLen := by
      obtain ⟨_, _, e0, h1, h2⟩ := h.shape
      simp only [Value.slice.injEq] at e0
      obtain ⟨_, _, rfl⟩ := e0
      exact ⟨h1, h2⟩
    have hn60 : ¬ 60 < (n : Int) := by omega
    clear h hn h60 hcm
    obtain ⟨es, hes⟩ : ∃ es, es = l := ⟨_, rfl⟩
    rw [← hes] at HE HL
    clear hes
    have HW := Lib.hid (Walk_any s _ es W HE.out HL.out)
    unfold WRes at HW
    by_cases hs : InS s
    · have n1 : ¬ s < 0 := by unfold InS at hs; omega
      have n2 : ¬ 9 < s := by unfold InS at hs; omega
      have HF := Lib.hid (few s es HL.out)
      have HBL := Lib.hid (bal_run es s)
      have hw : wlk s es = run s es := by unfold wlk; rw [if_pos hs]
      rw [hw] at HW HF
      obtain ⟨t, ht⟩ : ∃ t, t = (run s es).1 := ⟨_, rfl⟩
      obtain ⟨acc, hacc⟩ : ∃ acc, acc = (run s es).2.1 := ⟨_, rfl⟩
      obtain ⟨k, hk⟩ : ∃ k, k = (run s es).2.2.1 := ⟨_, rfl⟩
      obtain ⟨f, hf⟩ : ∃ f, f = (run s es).2.2.2 := ⟨_, rfl⟩
      rw [← ht, ← hacc, ← hk, ← hf] at HW
      rw [← ht, ← hacc] at HBL
      rw [← hacc] at HF
      clear hs hw ht hacc hk hf HE HL
      by_cases hf : f = 140
      · subst hf
        go_enter Try.func10, Try.ntmps10
        go_wp2_with fail
        refine HW.out.mono ?_
        rintro x w1 ⟨v1, rfl, ho1, hb1⟩
        have HB1 := Lib.hid hb1
        have HO1 := Lib.hid ho1.ar
        clear hb1 ho1 HW
        obtain ⟨A, C, rfl, _, _⟩ := HO1.out.shape
        obtain ⟨M, hM⟩ : ∃ M, M = acc.length := ⟨_, rfl⟩
        rw [← hM]
        have HM := Lib.hid hM
        have hM2 : M ≤ 180 := by rw [hM]; exact HF.out
        rw [← hM] at HO1
        clear hM
        go_wp2_with fail
        go_loopw [9, 10] (fun uv iv wr => ∃ (i : Nat) (u : Bool), i ≤ M ∧ iv = .int .i64 (i : Int) ∧ uv = .bool u ∧ bal (decide (s = 9)) (acc.take i) = some u ∧ wr = w1) (fun _ iv _ => M - (intOf iv).toNat)
        case atStart => exact ⟨0, (s == 9), Nat.zero_le _, rfl, rfl, rfl, rfl⟩
        case round =>
          obtain ⟨i, u, hi, rfl, rfl, hu, rfl⟩ := hrel
          have HU := Lib.hid hu
          clear hu
          by_cases hlt : i < M
          · have hil : i < acc.length := by rw [← HM.out]; exact hlt
            obtain ⟨b, o, ea, hc⟩ := AR.at HO1.out HM.out (by omega)
            subst ea
            have hm := bal_more hil HBL.out HU.out
            obtain ⟨x, hx⟩ : ∃ x, x = acc[i] := ⟨_, rfl⟩
            have d0 := hc i hil
            rw [← hx] at d0 hm
            have HMM := Lib.hid hm
            have hle : i + 1 ≤ M := by omega
            clear hx hc hil hm
            by_cases x1 : x = 1
            · subst x1
              obtain ⟨eu, hv⟩ := HMM.out.1 rfl
              subst eu
              have HV := Lib.hid hv
              clear hv HMM
              go_wp2_with fail
              go_roundw
              case rel =>
                first
                  | exact ⟨i + 1, true, hle, by go_num, rfl, HV.out, by first | rfl | trivial⟩
                  | ((repeat apply Exists.intro); exact ⟨⟨i + 1, true, hle, by go_num, rfl, HV.out, by first | rfl | trivial⟩, rfl⟩)
              case measure => simp [intOf]; omega
            · by_cases x2 : x = 2
              · subst x2
                obtain ⟨eu, hv⟩ := HMM.out.2.1 rfl
                subst eu
                have HV := Lib.hid hv
                clear hv HMM
                go_wp2_with fail
                go_roundw
                case rel =>
                  first
                    | exact ⟨i + 1, false, hle, by go_num, rfl, HV.out, by first | rfl | trivial⟩
                    | ((repeat apply Exists.intro); exact ⟨⟨i + 1, false, hle, by go_num, rfl, HV.out, by first | rfl | trivial⟩, rfl⟩)
                case measure => simp [intOf]; omega
              · have HV := Lib.hid (HMM.out.2.2 x1 x2)
                clear HMM
                go_wp2_with fail
                go_roundw
                case rel =>
                  first
                    | exact ⟨i + 1, u, hle, by go_num, rfl, HV.out, by first | rfl | trivial⟩
                    | ((repeat apply Exists.intro); exact ⟨⟨i + 1, u, hle, by go_num, rfl, HV.out, by first | rfl | trivial⟩, rfl⟩)
                case measure => simp [intOf]; omega
          · have hu : u = (t == 9) := by
              have h1 := HU.out
              rw [List.take_of_length_le (by have := HM.out; omega), HBL.out] at h1
              exact (Option.some.inj h1).symm
            subst hu
            go_wp2_with fail
            refine (HA.out _).mono ?_
            rintro x w3 ⟨rfl, hb⟩
            have HB3 := Lib.hid (HB1.out.trans (hb.mono HB1.out.size))
            clear hb HB1 HA
            go_wp2_with fail
            go_ret
            exact ⟨rfl, HB3.out⟩
      · have g1 : (f == 140) = false := by simpa using hf
        clear hf
        go_enter Try.func10, Try.ntmps10
        go_wp2_with fail
        refine HW.out.mono ?_
        rintro x w1 ⟨v1, rfl, ho1, hb1⟩
        have HB1 := Lib.hid hb1
        have HO1 := Lib.hid ho1.ar
        clear hb1 ho1 HW
        obtain ⟨A, C, rfl, _, _⟩ := HO1.out.shape
        obtain ⟨M, hM⟩ : ∃ M, M = acc.length := ⟨_, rfl⟩
        rw [← hM]
        have HM := Lib.hid hM
        have hM2 : M ≤ 180 := by rw [hM]; exact HF.out
        rw [← hM] at HO1
        clear hM
        go_wp2_with fail
        go_loopw [9, 10] (fun uv iv wr => ∃ (i : Nat) (u : Bool), i ≤ M ∧ iv = .int .i64 (i : Int) ∧ uv = .bool u ∧ bal (decide (s = 9)) (acc.take i) = some u ∧ wr = w1) (fun _ iv _ => M - (intOf iv).toNat)
        case atStart => exact ⟨0, (s == 9), Nat.zero_le _, rfl, rfl, rfl, rfl⟩
        case round =>
          obtain ⟨i, u, hi, rfl, rfl, hu, rfl⟩ := hrel
          have HU := Lib.hid hu
          clear hu
          by_cases hlt : i < M
          · have hil : i < acc.length := by rw [← HM.out]; exact hlt
            obtain ⟨b, o, ea, hc⟩ := AR.at HO1.out HM.out (by omega)
            subst ea
            have hm := bal_more hil HBL.out HU.out
            obtain ⟨x, hx⟩ : ∃ x, x = acc[i] := ⟨_, rfl⟩
            have d0 := hc i hil
            rw [← hx] at d0 hm
            have HMM := Lib.hid hm
            have hle : i + 1 ≤ M := by omega
            clear hx hc hil hm
            by_cases x1 : x = 1
            · subst x1
              obtain ⟨eu, hv⟩ := HMM.out.1 rfl
              subst eu
              have HV := Lib.hid hv
              clear hv HMM
              go_wp2_with fail
              go_roundw
              case rel =>
                first
                  | exact ⟨i + 1, true, hle, by go_num, rfl, HV.out, by first | rfl | trivial⟩
                  | ((repeat apply Exists.intro); exact ⟨⟨i + 1, true, hle, by go_num, rfl, HV.out, by first | rfl | trivial⟩, rfl⟩)
              case measure => simp [intOf]; omega
            · by_cases x2 : x = 2
              · subst x2
                obtain ⟨eu, hv⟩ := HMM.out.2.1 rfl
                subst eu
                have HV := Lib.hid hv
                clear hv HMM
                go_wp2_with fail
                go_roundw
                case rel =>
                  first
                    | exact ⟨i + 1, false, hle, by go_num, rfl, HV.out, by first | rfl | trivial⟩
                    | ((repeat apply Exists.intro); exact ⟨⟨i + 1, false, hle, by go_num, rfl, HV.out, by first | rfl | trivial⟩, rfl⟩)
                case measure => simp [intOf]; omega
              · have HV := Lib.hid (HMM.out.2.2 x1 x2)
                clear HMM
                go_wp2_with fail
                go_roundw
                case rel =>
                  first
                    | exact ⟨i + 1, u, hle, by go_num, rfl, HV.out, by first | rfl | trivial⟩
                    | ((repeat apply Exists.intro); exact ⟨⟨i + 1, u, hle, by go_num, rfl, HV.out, by first | rfl | trivial⟩, rfl⟩)
                case measure => simp [intOf]; omega
          · have hu : u = (t == 9) := by
              have h1 := HU.out
              rw [List.take_of_length_le (by have := HM.out; omega), HBL.out] at h1
              exact (Option.some.inj h1).symm
            subst hu
            go_wp2_with fail
            refine (HA.out _).mono ?_
            rintro x w3 ⟨rfl, hb⟩
            have HB3 := Lib.hid (HB1.out.trans (hb.mono HB1.out.size))
            clear hb HB1 HA
            go_wp2_with fail
            go_ret
            exact ⟨rfl, HB3.out⟩
    · have hw := wlk_out (es := es) hs
      rw [hw] at HW
      clear hw HE HL
      by_cases n1 : s < 0
      · clear hs
        go_enter Try.func10, Try.ntmps10
        go_wp2_with fail
        refine HW.out.mono ?_
        rintro x w1 ⟨v1, rfl, ho1, hb1⟩
        have HB1 := Lib.hid hb1
        obtain ⟨A, C, rfl, _, _⟩ := ho1.ar.shape
        clear hb1 ho1 HW
        go_wp2_with fail
        refine (HA.out _).mono ?_
        rintro x w3 ⟨rfl, hb⟩
        have HB3 := Lib.hid (HB1.out.trans (hb.mono HB1.out.size))
        clear hb HB1 HA
        go_wp2_with fail
        go_ret
        exact ⟨rfl, HB3.out⟩
      · have n2 : 9 < s := by unfold InS at hs; omega
        clear hs
        go_enter Try.func10, Try.ntmps10
        go_wp2_with fail
        refine HW.out.mono ?_
        rintro x w1 ⟨v1, rfl, ho1, hb1⟩
        have HB1 := Lib.hid hb1
        obtain ⟨A, C, rfl, _, _⟩ := ho1.ar.shape
        clear hb1 ho1 HW
        go_wp2_with fail
        refine (HA.out _).mono ?_
        rintro x w3 ⟨rfl, hb⟩
        have HB3 := Lib.hid (HB1.out.trans (hb.mono HB1.out.size))
        clear hb HB1 HA
        go_wp2_with fail
        go_ret
        exact ⟨rfl, HB3.out⟩
  · obtain ⟨ao, hs60, he, hl⟩ := cut_events hn h (by omega)
    have HE := Lib.hid he
    have HL : Hid ((l.take 60).length ≤ 60) := by show _ ≤ _; omega
    have hn60 : 60 < (n : Int) := by omega
    clear h hn h60 he hl
    obtain ⟨es, hes⟩ : ∃ es, es = l.take 60 := ⟨_, rfl⟩
    rw [← hes] at HE HL
    clear hes
    have HW := Lib.hid (Walk_any s _ es W HE.out HL.out)
    unfold WRes at HW
    by_cases hs : InS s
    · have n1 : ¬ s < 0 := by unfold InS at hs; omega
      have n2 : ¬ 9 < s := by unfold InS at hs; omega
      have HF := Lib.hid (few s es HL.out)
      have HBL := Lib.hid (bal_run es s)
      have hw : wlk s es = run s es := by unfold wlk; rw [if_pos hs]
      rw [hw] at HW HF
      obtain ⟨t, ht⟩ : ∃ t, t = (run s es).1 := ⟨_, rfl⟩
      obtain ⟨acc, hacc⟩ : ∃ acc, acc = (run s es).2.1 := ⟨_, rfl⟩
      obtain ⟨k, hk⟩ : ∃ k, k = (run s es).2.2.1 := ⟨_, rfl⟩
      obtain ⟨f, hf⟩ : ∃ f, f = (run s es).2.2.2 := ⟨_, rfl⟩
      rw [← ht, ← hacc, ← hk, ← hf] at HW
      rw [← ht, ← hacc] at HBL
      rw [← hacc] at HF
      clear hs hw ht hacc hk hf HE HL
      by_cases hf : f = 140
      · subst hf
        go_enter Try.func10, Try.ntmps10
        go_wp2_with fail
        refine HW.out.mono ?_
        rintro x w1 ⟨v1, rfl, ho1, hb1⟩
        have HB1 := Lib.hid hb1
        have HO1 := Lib.hid ho1.ar
        clear hb1 ho1 HW
        obtain ⟨A, C, rfl, _, _⟩ := HO1.out.shape
        obtain ⟨M, hM⟩ : ∃ M, M = acc.length := ⟨_, rfl⟩
        rw [← hM]
        have HM := Lib.hid hM
        have hM2 : M ≤ 180 := by rw [hM]; exact HF.out
        rw [← hM] at HO1
        clear hM
        go_wp2_with fail
        go_loopw [9, 10] (fun uv iv wr => ∃ (i : Nat) (u : Bool), i ≤ M ∧ iv = .int .i64 (i : Int) ∧ uv = .bool u ∧ bal (decide (s = 9)) (acc.take i) = some u ∧ wr = w1) (fun _ iv _ => M - (intOf iv).toNat)
        case atStart => exact ⟨0, (s == 9), Nat.zero_le _, rfl, rfl, rfl, rfl⟩
        case round =>
          obtain ⟨i, u, hi, rfl, rfl, hu, rfl⟩ := hrel
          have HU := Lib.hid hu
          clear hu
          by_cases hlt : i < M
          · have hil : i < acc.length := by rw [← HM.out]; exact hlt
            obtain ⟨b, o, ea, hc⟩ := AR.at HO1.out HM.out (by omega)
            subst ea
            have hm := bal_more hil HBL.out HU.out
            obtain ⟨x, hx⟩ : ∃ x, x = acc[i] := ⟨_, rfl⟩
            have d0 := hc i hil
            rw [← hx] at d0 hm
            have HMM := Lib.hid hm
            have hle : i + 1 ≤ M := by omega
            clear hx hc hil hm
            by_cases x1 : x = 1
            · subst x1
              obtain ⟨eu, hv⟩ := HMM.out.1 rfl
              subst eu
              have HV := Lib.hid hv
              clear hv HMM
              go_wp2_with fail
              go_roundw
              case rel =>
                first
                  | exact ⟨i + 1, true, hle, by go_num, rfl, HV.out, by first | rfl | trivial⟩
                  | ((repeat apply Exists.intro); exact ⟨⟨i + 1, true, hle, by go_num, rfl, HV.out, by first | rfl | trivial⟩, rfl⟩)
              case measure => simp [intOf]; omega
            · by_cases x2 : x = 2
              · subst x2
                obtain ⟨eu, hv⟩ := HMM.out.2.1 rfl
                subst eu
                have HV := Lib.hid hv
                clear hv HMM
                go_wp2_with fail
                go_roundw
                case rel =>
                  first
                    | exact ⟨i + 1, false, hle, by go_num, rfl, HV.out, by first | rfl | trivial⟩
                    | ((repeat apply Exists.intro); exact ⟨⟨i + 1, false, hle, by go_num, rfl, HV.out, by first | rfl | trivial⟩, rfl⟩)
                case measure => simp [intOf]; omega
              · have HV := Lib.hid (HMM.out.2.2 x1 x2)
                clear HMM
                go_wp2_with fail
                go_roundw
                case rel =>
                  first
                    | exact ⟨i + 1, u, hle, by go_num, rfl, HV.out, by first | rfl | trivial⟩
                    | ((repeat apply Exists.intro); exact ⟨⟨i + 1, u, hle, by go_num, rfl, HV.out, by first | rfl | trivial⟩, rfl⟩)
                case measure => simp [intOf]; omega
          · have hu : u = (t == 9) := by
              have h1 := HU.out
              rw [List.take_of_length_le (by have := HM.out; omega), HBL.out] at h1
              exact (Option.some.inj h1).symm
            subst hu
            go_wp2_with fail
            refine (HA.out _).mono ?_
            rintro x w3 ⟨rfl, hb⟩
            have HB3 := Lib.hid (HB1.out.trans (hb.mono HB1.out.size))
            clear hb HB1 HA
            go_wp2_with fail
            go_ret
            exact ⟨rfl, HB3.out⟩
      · have g1 : (f == 140) = false := by simpa using hf
        clear hf
        go_enter Try.func10, Try.ntmps10
        go_wp2_with fail
        refine HW.out.mono ?_
        rintro x w1 ⟨v1, rfl, ho1, hb1⟩
        have HB1 := Lib.hid hb1
        have HO1 := Lib.hid ho1.ar
        clear hb1 ho1 HW
        obtain ⟨A, C, rfl, _, _⟩ := HO1.out.shape
        obtain ⟨M, hM⟩ : ∃ M, M = acc.length := ⟨_, rfl⟩
        rw [← hM]
        have HM := Lib.hid hM
        have hM2 : M ≤ 180 := by rw [hM]; exact HF.out
        rw [← hM] at HO1
        clear hM
        go_wp2_with fail
        go_loopw [9, 10] (fun uv iv wr => ∃ (i : Nat) (u : Bool), i ≤ M ∧ iv = .int .i64 (i : Int) ∧ uv = .bool u ∧ bal (decide (s = 9)) (acc.take i) = some u ∧ wr = w1) (fun _ iv _ => M - (intOf iv).toNat)
        case atStart => exact ⟨0, (s == 9), Nat.zero_le _, rfl, rfl, rfl, rfl⟩
        case round =>
          obtain ⟨i, u, hi, rfl, rfl, hu, rfl⟩ := hrel
          have HU := Lib.hid hu
          clear hu
          by_cases hlt : i < M
          · have hil : i < acc.length := by rw [← HM.out]; exact hlt
            obtain ⟨b, o, ea, hc⟩ := AR.at HO1.out HM.out (by omega)
            subst ea
            have hm := bal_more hil HBL.out HU.out
            obtain ⟨x, hx⟩ : ∃ x, x = acc[i] := ⟨_, rfl⟩
            have d0 := hc i hil
            rw [← hx] at d0 hm
            have HMM := Lib.hid hm
            have hle : i + 1 ≤ M := by omega
            clear hx hc hil hm
            by_cases x1 : x = 1
            · subst x1
              obtain ⟨eu, hv⟩ := HMM.out.1 rfl
              subst eu
              have HV := Lib.hid hv
              clear hv HMM
              go_wp2_with fail
              go_roundw
              case rel =>
                first
                  | exact ⟨i + 1, true, hle, by go_num, rfl, HV.out, by first | rfl | trivial⟩
                  | ((repeat apply Exists.intro); exact ⟨⟨i + 1, true, hle, by go_num, rfl, HV.out, by first | rfl | trivial⟩, rfl⟩)
              case measure => simp [intOf]; omega
            · by_cases x2 : x = 2
              · subst x2
                obtain ⟨eu, hv⟩ := HMM.out.2.1 rfl
                subst eu
                have HV := Lib.hid hv
                clear hv HMM
                go_wp2_with fail
                go_roundw
                case rel =>
                  first
                    | exact ⟨i + 1, false, hle, by go_num, rfl, HV.out, by first | rfl | trivial⟩
                    | ((repeat apply Exists.intro); exact ⟨⟨i + 1, false, hle, by go_num, rfl, HV.out, by first | rfl | trivial⟩, rfl⟩)
                case measure => simp [intOf]; omega
              · have HV := Lib.hid (HMM.out.2.2 x1 x2)
                clear HMM
                go_wp2_with fail
                go_roundw
                case rel =>
                  first
                    | exact ⟨i + 1, u, hle, by go_num, rfl, HV.out, by first | rfl | trivial⟩
                    | ((repeat apply Exists.intro); exact ⟨⟨i + 1, u, hle, by go_num, rfl, HV.out, by first | rfl | trivial⟩, rfl⟩)
                case measure => simp [intOf]; omega
          · have hu : u = (t == 9) := by
              have h1 := HU.out
              rw [List.take_of_length_le (by have := HM.out; omega), HBL.out] at h1
              exact (Option.some.inj h1).symm
            subst hu
            go_wp2_with fail
            refine (HA.out _).mono ?_
            rintro x w3 ⟨rfl, hb⟩
            have HB3 := Lib.hid (HB1.out.trans (hb.mono HB1.out.size))
            clear hb HB1 HA
            go_wp2_with fail
            go_ret
            exact ⟨rfl, HB3.out⟩
    · have hw := wlk_out (es := es) hs
      rw [hw] at HW
      clear hw HE HL
      by_cases n1 : s < 0
      · clear hs
        go_enter Try.func10, Try.ntmps10
        go_wp2_with fail
        refine HW.out.mono ?_
        rintro x w1 ⟨v1, rfl, ho1, hb1⟩
        have HB1 := Lib.hid hb1
        obtain ⟨A, C, rfl, _, _⟩ := ho1.ar.shape
        clear hb1 ho1 HW
        go_wp2_with fail
        refine (HA.out _).mono ?_
        rintro x w3 ⟨rfl, hb⟩
        have HB3 := Lib.hid (HB1.out.trans (hb.mono HB1.out.size))
        clear hb HB1 HA
        go_wp2_with fail
        go_ret
        exact ⟨rfl, HB3.out⟩
      · have n2 : 9 < s := by unfold InS at hs; omega
        clear hs
        go_enter Try.func10, Try.ntmps10
        go_wp2_with fail
        refine HW.out.mono ?_
        rintro x w1 ⟨v1, rfl, ho1, hb1⟩
        have HB1 := Lib.hid hb1
        obtain ⟨A, C, rfl, _, _⟩ := ho1.ar.shape
        clear hb1 ho1 HW
        go_wp2_with fail
        refine (HA.out _).mono ?_
        rintro x w3 ⟨rfl, hb⟩
        have HB3 := Lib.hid (HB1.out.trans (hb.mono HB1.out.size))
        clear hb HB1 HA
        go_wp2_with fail
        go_ret
        exact ⟨rfl, HB3.out⟩
theorem own : ownKnob Try.prog.godebug = none := by kernel_rfl
theorem laidOut : laidOutB Try.prog = true := by kernel_rfl
set_option maxRecDepth 100000 in
theorem lifted (os : Os) (started : os.Started) (H : Type) (enc : TypeId × Value → H) :
    ReturnsInHanded {} Try.checked os 10 .any (Rows.fsmBalanceSpec.pre6 enc Try.prog Try.f10 Rows.fsmBalanceRow.domain false) (Rows.fsmBalanceSpec.post enc Try.prog Try.f10 false true false false) := by
  refine returnsInHanded_of_change (C := Try.checked) own started (by kernel_rfl) Try.func10
    (ChangeSpec.witness6 (enc := enc) (C := Try.checked) false ⟨#[], #[.int .i64 0, .slice none 0 0], []⟩ 8 (by kernel_rfl) (by kernel_rfl) (by kernel_rfl) (by kernel_rfl)) ?_
  intro W base args ds gs before hval0 hW hcnd _
  have hval : ∀ (j : Nat) t v, Try.f10.params[j]? = some t → args[j]? = some v → Value.okWide Try.prog W .any base t v := hval0
  have hW' := hW
  obtain ⟨p, q, hA0, hV, rfl, hfz, hnd⟩ := hW
  have hA : DataW.TrodAll enc Try.prog W 0 (fun _ => true) true Try.f10.params.toList args.toList ds p := hA0
  rw [Try.params10] at hA hval
  obtain ⟨v0, vs0, d0, ds0, p0, q0, hargs, rfl, rfl, h0, r0⟩ := trodAll_cons hA
  obtain ⟨v1, vs1, d1, ds1, p1, q1, rfl, rfl, rfl, h1, r1⟩ := trodAll_cons r0
  obtain ⟨rfl, rfl, rfl⟩ := trodAll_nil r1
  obtain rfl : args = #[v0, v1] := by cases args; simp_all
  obtain ⟨rfl, rfl⟩ := trodVars_none hV
  have k0 := h0
  have lt0 : ∀ x ∈ p0, x.block < W.heap.size := by obtain ⟨m, hm⟩ := k0; exact DataW.trod_lt m _ _ _ hm
  obtain ⟨a0, rfl, rfl, rfl, w0⟩ := open_int Try.underlying22 (hval 0 22 v0 rfl rfl) h0
  have k1 := h1
  have lt1 : ∀ x ∈ p1, x.block < W.heap.size := by obtain ⟨m, hm⟩ := k1; exact DataW.trod_lt m _ _ _ hm
  obtain ⟨a1, n1, c1, l1, rfl, hn1, b1⟩ := open_introw Try.underlying31 Try.underlying23 (by kernel_rfl) (hval 1 31 v1 rfl rfl) h1
  clear hA0 hval0
  refine (walk W a0 w0 a1 n1 c1 l1 hn1 b1).mono fun e W' ⟨he, bel⟩ => ?_
  subst he
  exact ⟨_, rfl, _, _, _, [], _, [], hW', trodAll_mk1 (shut_bool Try.underlying4 _), (trodAll_cons_mk (Below.trod laidOut (by kernel_rfl) (of_decide_eq_true (by kernel_rfl)) k0 bel lt0) (trodAll_cons_mk (Below.trod laidOut (by kernel_rfl) (of_decide_eq_true (by kernel_rfl)) k1 bel lt1) trodAll_mk0)), rfl, bel.frame _, fun h => by cases h⟩
theorem over : Rows.fsmBalanceRow.holds Try.pinned (OpenSpec.ofChange Rows.fsmBalanceSpec) :=
  OpenClaim.holds_of_wide 10 Try.f10 rfl rfl rfl rfl rfl rfl rfl ⟨rfl, rfl, rfl, rfl, rfl⟩ rfl rfl rfl rfl rfl (by kernel_rfl) Try.func10 (by kernel_rfl)
    (of_decide_eq_true (by kernel_rfl)) (by unfold Func.isWrapper; first | (rw [if_pos (by decide +kernel)]; kernel_rfl) | (rw [if_neg (by decide +kernel)]; exact ⟨rfl, rfl⟩))
    (fun os started H enc _ => lifted os started H enc)
/-- The statement. -/
theorem proved : Rows.FsmBalanceSaid := over
end Go.Proofs.Ytmhiajjnkcneoaa.fsmBalance
