/-
  For any two rates and any asks (the first 60) who is answered, how many addresses have a bucket, and the tick, are as the document says (conciergelaw10.BucketLimiterRuns answers true). No condition.
-/
import Derived.Test.YtblnglkjpnpmbaaBkV
import Derived.Test.YtblnglkjpnpmbaaOpenB
import Derived.ProofKit
import Derived.OpenShut
import Derived.ChangeOld
namespace Go.Proofs.Ytblnglkjpnpmbaa.bucketLimiterRuns
open Go.ChangeShapes Go.WideShapes Go.ChangeAt Go.RowKit
open Go.Proofs.Ytblnglkjpnpmbaa.Bk
set_option linter.unusedVariables false
set_option linter.unusedSimpArgs false

set_option maxRecDepth 20000 in
set_option maxHeartbeats 8000000 in
theorem walk (W : World) (ae am : Int) (wae : (Lit.int .i64 ae).wf = true) (wam : (Lit.int .i64 am).wf = true) (oe om : Int) (woe : (Lit.int .i64 oe).wf = true) (wom : (Lit.int .i64 om).wf = true)
    (a : Option Addr) (n c : Nat) (qs : List Ak) (hq : AkR W (.slice a n c) n qs) :
    Calls Try.prog 6 #[.agg #[.int .i64 ae, .int .i64 am], .agg #[.int .i64 oe, .int .i64 om], .slice a n c] W fun e w' => e = .returned (.bool true) ∧ Below W.heap.size W w' := by
  have HB : Hid (Below W.heap.size W ((W.alloc (.cells #[.int .i64 ae, .int .i64 am] 23)).alloc (.cells #[.int .i64 oe, .int .i64 om] 23))) := boxed_two _ _ _
  have HG0 : Hid (((W.alloc (.cells #[.int .i64 ae, .int .i64 am] 23)).alloc (.cells #[.int .i64 oe, .int .i64 om] 23)).heap[W.heap.size]? = some (.cells #[.int .i64 ae, .int .i64 am] 23 (0, 0))) := boxed_0 _ _ _
  have HG1 : Hid (((W.alloc (.cells #[.int .i64 ae, .int .i64 am] 23)).alloc (.cells #[.int .i64 oe, .int .i64 om] 23)).heap[W.heap.size + 1]? = some (.cells #[.int .i64 oe, .int .i64 om] 23 (0, 0))) := boxed_1 _ _ _
  have HQ := Lib.hid hq
  have HA := Lib.hid (fun w => awake_any w)
  clear wae wam woe wom hq
  by_cases hok : okR ⟨ae, am⟩ ∧ okR ⟨oe, om⟩
  · have HOK := Lib.hid hok
    clear hok
    go_enter Try.func6, Try.ntmps6
    go_wp2_with fail
    generalize ((W.alloc (.cells #[.int .i64 ae, .int .i64 am] 23)).alloc (.cells #[.int .i64 oe, .int .i64 om] 23)) = w1 at HB HG0 HG1 ⊢
    refine (new_yes ae am oe om HOK.out.1 HOK.out.2 w1).mono ?_
    rintro e w2 ⟨g, bm, rfl, hg, hbm, hl, hb⟩
    have HL2 := Lib.hid hl
    have HG02 := Lib.hid (heap_below HG0.out hb)
    have HG12 := Lib.hid (heap_below HG1.out hb)
    have HB2 := Lib.hid (HB.out.trans (hb.mono HB.out.size))
    have HGE : Hid (W.heap.size ≤ g ∧ W.heap.size ≤ bm) := ⟨Nat.le_trans HB.out.size hg, Nat.le_trans HB.out.size hbm⟩
    clear hl hb hg hbm HB HG0 HG1
    obtain ⟨k0, k1⟩ := cells2 HG02.out
    obtain ⟨m0, m1⟩ := cells2 HG12.out
    go_wp2_with fail
    refine (rnew_yes ae am oe om HOK.out.1 HOK.out.2 w2).mono ?_
    rintro e w3 ⟨rfl, hb⟩
    have ha : Below w3.heap.size w3 (w3.alloc (.cells #[.int .i64 ae, .int .i64 am, .int .i64 oe, .int .i64 om, .int .i64 am, .int .i64 0, .slice none 0 0, .int .i64 0] 42)) := (Below.refl _ _).alloc (Nat.le_refl _) _
    have HRJ : Hid (RJ g bm w3.heap.size W (w3.alloc (.cells #[.int .i64 ae, .int .i64 am, .int .i64 oe, .int .i64 om, .int .i64 am, .int .i64 0, .slice none 0 0, .int .i64 0] 42)) (born ⟨ae, am⟩ ⟨oe, om⟩) none 0) :=
      ⟨(HL2.out.gr hb).gr ha, heap_alloc_last _ _, ⟨Rd.nil _ _, fun p hp => by cases hp⟩, (HB2.out.trans (hb.mono HB2.out.size)).trans (ha.mono (Nat.le_trans HB2.out.size hb.size)), HGE.out.1, HGE.out.2, Nat.le_trans HB2.out.size hb.size⟩
    clear hb ha k0 k1 m0 m1 HL2 HG02 HG12 HB2 HGE
    go_upto_region 3 with fail
    generalize w3.alloc (.cells #[.int .i64 ae, .int .i64 am, .int .i64 oe, .int .i64 om, .int .i64 am, .int .i64 0, .slice none 0 0, .int .i64 0] 42) = w4 at HRJ ⊢
    obtain ⟨b9, hb9⟩ : ∃ b, b = w3.heap.size := ⟨_, rfl⟩
    rw [← hb9] at HRJ ⊢
    clear hb9
    go_wp2_with fail
    refine (HA.out _).mono ?_
    rintro e w5 ⟨rfl, hb⟩
    have HRJ5 := Lib.hid (HRJ.out.gr hb)
    clear hb HRJ HA
    obtain ⟨S0, hS0⟩ : ∃ S, S = born ⟨ae, am⟩ ⟨oe, om⟩ := ⟨_, rfl⟩
    rw [← hS0] at HRJ5
    clear hS0 HOK
    go_wp2_with fail
    go_loopw [11, 12] (fun tv iv wr => ∃ (i : Nat) (tk : Int) (S : Li) (A : Option Addr) (C : Nat), i ≤ n ∧ i ≤ 60 ∧ iv = .int .i64 (i : Int) ∧ tv = .int .i64 tk ∧ 0 ≤ tk ∧ tk ≤ (i : Int) * 255 ∧ RJ g bm b9 W wr S A C) (fun _ iv _ => n - (intOf iv).toNat)
    case atStart => exact ⟨0, 0, S0, none, 0, Nat.zero_le _, Nat.zero_le _, rfl, rfl, Int.le_refl _, by decide, HRJ5.out⟩
    case round =>
      clear HRJ5
      obtain ⟨i, tk, S, A, C, hin, hi60, hiv, htv, ht0, ht1, hrj⟩ := hrel
      subst hiv htv
      have HJ := Lib.hid hrj
      clear hrj
      by_cases hlt : i < n
      · by_cases hlt2 : i < 60
        · obtain ⟨b, o, ⟨qm, ql, qr, qa⟩, rfl, hbl, hqi, hcc⟩ := ask_at HQ.out hlt
          dsimp only at hcc
          have HCC := Lib.hid hcc
          have hqt : ql.toNat < 256 := UInt8.toNat_lt _
          have hi256 : (i : Int) < 60 := by omega
          obtain ⟨tk2, htk2⟩ : ∃ x, tk + (ql.toNat : Int) = x := ⟨_, rfl⟩
          have x0 : wrap64 (ql.toNat : Int) = (ql.toNat : Int) := wrap64_in (by omega) (by omega)
          have x1 : wrap64 (tk + (ql.toNat : Int)) = tk2 := by rw [← htk2]; exact wrap64_in (by omega) (by omega)
          have HTK : Hid (0 ≤ tk2 ∧ tk2 ≤ ((i : Int) + 1) * 255) := by constructor <;> omega
          obtain ⟨c0, c1, c2, c3⟩ := hcc wr HJ.out.bel
          clear hcc hbl hqi ht0 ht1 hqt htk2
          go_upto_if 68 with fail
          obtain ⟨AT, hAT⟩ : ∃ x, x = if qr then qa else tk2 := ⟨_, rfl⟩
          have HAT := Lib.hid hAT
          clear hAT
          go_cut [11, 13, 68] (fun s11 s13 _ wx => s11 = .int .i64 tk2 ∧ s13 = .int .i64 AT ∧ wx = wr)
          case first =>
            cases qr with
            | true =>
              have HQA : Hid (AT = qa) := HAT.out
              go_wp2_with fail
              go_meet
              exact ⟨by first | rfl | simp [x0, x1], by rw [HQA.out], rfl⟩
            | false =>
              have HQA : Hid (AT = tk2) := HAT.out
              go_wp2_with fail
              go_meet
              exact ⟨by first | rfl | simp [x0, x1], by rw [HQA.out]; first | rfl | simp [x0, x1], rfl⟩
          case rest =>
            obtain ⟨hs11, hs13, hwc⟩ := hcut
            subst hs11 hs13 hwc
            clear x0 x1
            obtain ⟨w5, hw5⟩ : ∃ x, x = wc := ⟨_, rfl⟩
            subst hw5
            go_wp2_with fail
            refine (mac_any qm _).mono ?_
            rintro e w6 ⟨rfl, hb⟩
            have HJ6 := Lib.hid (HJ.out.gr hb)
            clear hb HJ c0 c1 c2 c3
            obtain ⟨T, hT⟩ : ∃ T, T = (allow S (macL qm) AT).1 := ⟨_, rfl⟩
            obtain ⟨X, hX⟩ : ∃ X, X = (allow S (macL qm) AT).2 := ⟨_, rfl⟩
            have LA := lim_allow g bm AT _ _ _ _ _ _ (macL qm) (macL_is qm) w6 HJ6.out.lim
            have RA : Hid (∀ w, ER w (.slice A S.es.length C) S.es → _) := fun w h => rallow_any HJ6.out.lim.ok HJ6.out.lim.few A S.es.length C AT _ _ _ _ _ _ (macL qm) (macL_is qm) w h
            rw [← hT, ← hX] at LA
            rw [← hT, ← hX] at RA
            have HLA := Lib.hid LA
            clear LA hT hX
            go_wp2_with fail
            refine HLA.out.mono ?_
            rintro e w7 ⟨rfl, hl7, ht7⟩
            have HK7 := Lib.hid (HJ6.out.tu hl7 ht7)
            have HGE : Hid (W.heap.size ≤ g ∧ W.heap.size ≤ bm ∧ W.heap.size ≤ b9) := HJ6.out.ge
            clear hl7 ht7 HLA HJ6
            go_upto_region 16 with fail
            go_cut [15, 16] (fun s15 s16 wx => ∃ g15 A2 C2, s15 = .pointer (some ⟨g15, 0, none⟩) ∧ s16 = .bool X ∧ Hid (wx.heap[g15]? = some (.cells #[.int .i64 T.all.e, .int .i64 T.all.m, .int .i64 T.own.e, .int .i64 T.own.m, .int .i64 T.b.k, .int .i64 T.b.t, .slice A2 T.es.length C2, .int .i64 T.t] 42 (0, 0))) ∧ Hid (ER wx (.slice A2 T.es.length C2) T.es) ∧ Hid (Gr w7 wx) ∧ Hid (w7.heap.size ≤ g15))
            case first =>
              have HC : Hid (Gr w7 w7.drew) := Gr.drew w7
              refine wp_region_G 15 (Below (w7.heap.size)) (by kernel_rfl) ?_
              generalize w7.drew = wc at HC ⊢
              -- 0: slot 84
              refine wpG_take (preBelow (w7.heap.size)) (i := 0) (v := ?_) (by kernel_rfl) (some 84) (by kernel_rfl) rfl (by kernel_rfl) (by kernel_rfl) (by kernel_rfl) (fun _ _ _ h => h) (by rfl) (fun w' hw' => ?_) rfl ?_
              rotate_left
              · try (have hxx := HK7.out.gr (Below.trans HC.out hw'); have hq8 := cells8 hxx.doc; obtain ⟨k0, k1, k2, k3, k4, k5, k6, k7⟩ := hq8; have hqc := HCC.out _ hxx.bel; obtain ⟨c0, c1, c2, c3⟩ := hqc; clear hxx)
                go_simp
                with_reducible rfl
              simp only [Act.put, List.setIfInBounds_toArray, List.set_cons_zero, List.set_cons_succ]
              -- 1: slot 85
              refine wpG_take (preBelow (w7.heap.size)) (i := 1) (v := ?_) (by kernel_rfl) (some 85) (by kernel_rfl) rfl (by kernel_rfl) (by kernel_rfl) (by kernel_rfl) (fun _ _ _ h => h) (by rfl) (fun w' hw' => ?_) rfl ?_
              rotate_left
              · try (have hxx := HK7.out.gr (Below.trans HC.out hw'); have hq8 := cells8 hxx.doc; obtain ⟨k0, k1, k2, k3, k4, k5, k6, k7⟩ := hq8; have hqc := HCC.out _ hxx.bel; obtain ⟨c0, c1, c2, c3⟩ := hqc; clear hxx)
                go_simp
                with_reducible rfl
              simp only [Act.put, List.setIfInBounds_toArray, List.set_cons_zero, List.set_cons_succ]
              -- 2: slot 86
              refine wpG_take (preBelow (w7.heap.size)) (i := 2) (v := ?_) (by kernel_rfl) (some 86) (by kernel_rfl) rfl (by kernel_rfl) (by kernel_rfl) (by kernel_rfl) (fun _ _ _ h => h) (by rfl) (fun w' hw' => ?_) rfl ?_
              rotate_left
              · try (have hxx := HK7.out.gr (Below.trans HC.out hw'); have hq8 := cells8 hxx.doc; obtain ⟨k0, k1, k2, k3, k4, k5, k6, k7⟩ := hq8; have hqc := HCC.out _ hxx.bel; obtain ⟨c0, c1, c2, c3⟩ := hqc; clear hxx)
                go_simp
                with_reducible rfl
              simp only [Act.put, List.setIfInBounds_toArray, List.set_cons_zero, List.set_cons_succ]
              -- 3: slot 87
              refine wpG_take (preBelow (w7.heap.size)) (i := 3) (v := ?_) (by kernel_rfl) (some 87) (by kernel_rfl) rfl (by kernel_rfl) (by kernel_rfl) (by kernel_rfl) (fun _ _ _ h => h) (by rfl) (fun w' hw' => ?_) rfl ?_
              rotate_left
              · try (have hxx := HK7.out.gr (Below.trans HC.out hw'); have hq8 := cells8 hxx.doc; obtain ⟨k0, k1, k2, k3, k4, k5, k6, k7⟩ := hq8; have hqc := HCC.out _ hxx.bel; obtain ⟨c0, c1, c2, c3⟩ := hqc; clear hxx)
                go_simp
                with_reducible rfl
              simp only [Act.put, List.setIfInBounds_toArray, List.set_cons_zero, List.set_cons_succ]
              -- 4: slot 88
              refine wpG_take (preBelow (w7.heap.size)) (i := 4) (v := ?_) (by kernel_rfl) (some 88) (by kernel_rfl) rfl (by kernel_rfl) (by kernel_rfl) (by kernel_rfl) (fun _ _ _ h => h) (by rfl) (fun w' hw' => ?_) rfl ?_
              rotate_left
              · try (have hxx := HK7.out.gr (Below.trans HC.out hw'); have hq8 := cells8 hxx.doc; obtain ⟨k0, k1, k2, k3, k4, k5, k6, k7⟩ := hq8; have hqc := HCC.out _ hxx.bel; obtain ⟨c0, c1, c2, c3⟩ := hqc; clear hxx)
                go_simp
                with_reducible rfl
              simp only [Act.put, List.setIfInBounds_toArray, List.set_cons_zero, List.set_cons_succ]
              -- 5: slot 89
              refine wpG_take (preBelow (w7.heap.size)) (i := 5) (v := ?_) (by kernel_rfl) (some 89) (by kernel_rfl) rfl (by kernel_rfl) (by kernel_rfl) (by kernel_rfl) (fun _ _ _ h => h) (by rfl) (fun w' hw' => ?_) rfl ?_
              rotate_left
              · try (have hxx := HK7.out.gr (Below.trans HC.out hw'); have hq8 := cells8 hxx.doc; obtain ⟨k0, k1, k2, k3, k4, k5, k6, k7⟩ := hq8; have hqc := HCC.out _ hxx.bel; obtain ⟨c0, c1, c2, c3⟩ := hqc; clear hxx)
                go_simp
                with_reducible rfl
              simp only [Act.put, List.setIfInBounds_toArray, List.set_cons_zero, List.set_cons_succ]
              -- 7: slot 91
              refine wpG_take (preBelow (w7.heap.size)) (i := 7) (v := ?_) (by kernel_rfl) (some 91) (by kernel_rfl) rfl (by kernel_rfl) (by kernel_rfl) (by kernel_rfl) (fun _ _ _ h => h) (by rfl) (fun w' hw' => ?_) rfl ?_
              rotate_left
              · try (have hxx := HK7.out.gr (Below.trans HC.out hw'); have hq8 := cells8 hxx.doc; obtain ⟨k0, k1, k2, k3, k4, k5, k6, k7⟩ := hq8; have hqc := HCC.out _ hxx.bel; obtain ⟨c0, c1, c2, c3⟩ := hqc; clear hxx)
                go_simp
                with_reducible rfl
              simp only [Act.put, List.setIfInBounds_toArray, List.set_cons_zero, List.set_cons_succ]
              refine wpG_two (i := 6) (j := 12) rfl rfl (by kernel_rfl) (by rfl) (by rfl) ?_ ?_
              · go_simp
                refine (mac_any qm wc).mono ?_
                rintro e wn ⟨rfl, hb⟩
                refine ⟨hb.mono (Below.size HC.out), ?_⟩
                try (have HK' := Lib.hid (heap_below HK.out hb); clear HK; have HK := HK'; clear HK')
                have HC' : Hid (Gr w7 wn) := Below.trans HC.out (Below.mono hb (Below.size HC.out))
                clear HC hb
                have HC := HC'
                clear HC'
                obtain ⟨wc, hwc⟩ : ∃ x, x = wn := ⟨_, rfl⟩
                subst hwc
                try simp only [Act.put, List.setIfInBounds_toArray, List.set_cons_zero, List.set_cons_succ]
                refine wpG_two (i := 8) (j := 12) rfl rfl (by kernel_rfl) (by rfl) (by rfl) ?_ ?_
                · go_simp
                  refine (RA.out wc (HK7.out.gr HC.out).er).mono ?_
                  rintro e wn ⟨A2, n2, C2, rfl, her, hb⟩
                  have hn2 := her.len.1
                  subst hn2
                  refine ⟨hb.mono (Below.size HC.out), ?_⟩
                  try (have HK' := Lib.hid (heap_below HK.out hb); clear HK; have HK := HK'; clear HK')
                  have HER := Lib.hid her
                  have HC' : Hid (Gr w7 wn) := Below.trans HC.out (Below.mono hb (Below.size HC.out))
                  clear HC hb her
                  have HC := HC'
                  clear HC'
                  obtain ⟨wc, hwc⟩ : ∃ x, x = wn := ⟨_, rfl⟩
                  subst hwc
                  try simp only [Act.put, List.setIfInBounds_toArray, List.set_cons_zero, List.set_cons_succ]
                  -- 9: slot 83
                  refine wpG_take (preBelow (w7.heap.size)) (i := 9) (v := ?_) (by kernel_rfl) (some 83) (by kernel_rfl) rfl (by kernel_rfl) (by kernel_rfl) (by kernel_rfl) (fun _ _ _ h => h) (by rfl) (fun w' hw' => ?_) rfl ?_
                  rotate_left
                  · try (have hxx := HK7.out.gr (Below.trans HC.out hw'); have hq8 := cells8 hxx.doc; obtain ⟨k0, k1, k2, k3, k4, k5, k6, k7⟩ := hq8; have hqc := HCC.out _ hxx.bel; obtain ⟨c0, c1, c2, c3⟩ := hqc; clear hxx)
                    go_simp
                    with_reducible rfl
                  simp only [Act.put, List.setIfInBounds_toArray, List.set_cons_zero, List.set_cons_succ]
                  -- 10: slot 93
                  refine wpG_take (preBelow (w7.heap.size)) (i := 10) (v := ?_) (by kernel_rfl) (some 93) (by kernel_rfl) rfl (by kernel_rfl) (by kernel_rfl) (by kernel_rfl) (fun _ _ _ h => h) (by rfl) (fun w' hw' => ?_) rfl ?_
                  rotate_left
                  · try (have hxx := HK7.out.gr (Below.trans HC.out hw'); have hq8 := cells8 hxx.doc; obtain ⟨k0, k1, k2, k3, k4, k5, k6, k7⟩ := hq8; have hqc := HCC.out _ hxx.bel; obtain ⟨c0, c1, c2, c3⟩ := hqc; clear hxx)
                    go_simp
                    with_reducible rfl
                  simp only [Act.put, List.setIfInBounds_toArray, List.set_cons_zero, List.set_cons_succ]
                  -- 11: slot 94
                  refine wpG_take (preBelow (w7.heap.size)) (i := 11) (v := ?_) (by kernel_rfl) (some 94) (by kernel_rfl) rfl (by kernel_rfl) (by kernel_rfl) (by kernel_rfl) (fun _ _ _ h => h) (by rfl) (fun w' hw' => ?_) rfl ?_
                  rotate_left
                  · try (have hxx := HK7.out.gr (Below.trans HC.out hw'); have hq8 := cells8 hxx.doc; obtain ⟨k0, k1, k2, k3, k4, k5, k6, k7⟩ := hq8; have hqc := HCC.out _ hxx.bel; obtain ⟨c0, c1, c2, c3⟩ := hqc; clear hxx)
                    go_simp
                    with_reducible rfl
                  simp only [Act.put, List.setIfInBounds_toArray, List.set_cons_zero, List.set_cons_succ]
                  refine wpG_one (i := 12) rfl (by kernel_rfl) (by rfl) ?_
                  go_simp
                  have hb : Below wc.heap.size wc (wc.alloc (.cells #[.int .i64 0, .int .i64 0, .int .i64 0, .int .i64 0, .int .i64 0, .int .i64 0, .slice none 0 0, .int .i64 0] 42)) := (Below.refl _ _).alloc (Nat.le_refl _) _
                  refine ⟨hb.mono (Below.size HC.out), ?_⟩
                  have hk : (wc.alloc (.cells #[.int .i64 0, .int .i64 0, .int .i64 0, .int .i64 0, .int .i64 0, .int .i64 0, .slice none 0 0, .int .i64 0] 42)).heap[wc.heap.size]? = some (.cells #[.int .i64 0, .int .i64 0, .int .i64 0, .int .i64 0, .int .i64 0, .int .i64 0, .slice none 0 0, .int .i64 0] 42 (0, 0)) := heap_alloc_last _ _
                  have hgb : w7.heap.size ≤ wc.heap.size := Below.size HC.out
                  try (have HER' := Lib.hid (HER.out.below hb); clear HER; have HER := HER'; clear HER')
                  generalize wc.alloc (.cells #[.int .i64 0, .int .i64 0, .int .i64 0, .int .i64 0, .int .i64 0, .int .i64 0, .slice none 0 0, .int .i64 0] 42) = wn at *
                  have HC' : Hid (Gr w7 wn) := Below.trans HC.out (Below.mono hb (Below.size HC.out))
                  clear HC
                  have HC := HC'
                  clear HC'
                  obtain ⟨gk, hgk⟩ : ∃ g, g = wc.heap.size := ⟨_, rfl⟩
                  rw [← hgk] at hk hgb ⊢
                  have HK := Lib.hid hk
                  have HGB := Lib.hid hgb
                  clear hgk hb hk hgb
                  obtain ⟨wc, hwc⟩ : ∃ x, x = wn := ⟨_, rfl⟩
                  subst hwc
                  try simp only [Act.put, List.setIfInBounds_toArray, List.set_cons_zero, List.set_cons_succ]
                  refine wpG_one (i := 13) rfl (by kernel_rfl) (by rfl) ?_
                  refine wp_store_whole (none) 42 (.tmp 15) (.tmp 93) rfl gk [.int .i64 T.all.e, .int .i64 T.all.m, .int .i64 T.own.e, .int .i64 T.own.m, .int .i64 T.b.k, .int .i64 T.b.t, .slice A2 T.es.length C2, .int .i64 T.t] rfl rfl 42 [.int .i64 0, .int .i64 0, .int .i64 0, .int .i64 0, .int .i64 0, .int .i64 0, .slice none 0 0, .int .i64 0] HK.out (by kernel_rfl) rfl ?o1 rfl ?_
                  case o1 => intro u hu; simp only [List.mem_cons, List.not_mem_nil, or_false] at hu; rcases hu with rfl | rfl | rfl | rfl | rfl | rfl | rfl | rfl <;> rfl
                  intro wn h5 ho
                  refine ⟨ho.below _ _ HGB.out (Below.refl _ _), ?_⟩
                  have HE5 : Hid (wn.heap[gk]? = some (.cells #[.int .i64 T.all.e, .int .i64 T.all.m, .int .i64 T.own.e, .int .i64 T.own.m, .int .i64 T.b.k, .int .i64 T.b.t, .slice A2 T.es.length C2, .int .i64 T.t] 42 (0, 0))) := h5
                  have HE6 : Hid (Gr w7 wn) := ho.below _ _ HGB.out HC.out
                  have HE7 : Hid (ER wn (.slice A2 T.es.length C2) T.es) := HER.out.store HK.out no_u8 ho
                  clear h5 ho
                  try simp only [Act.put, List.setIfInBounds_toArray, List.set_cons_zero, List.set_cons_succ]
                  -- 14: slot 16
                  refine wpG_take (preBelow (w7.heap.size)) (i := 14) (v := ?_) (by kernel_rfl) (some 16) (by kernel_rfl) rfl (by kernel_rfl) (by kernel_rfl) (by kernel_rfl) (fun _ _ _ h => h) (by rfl) (fun w' hw' => ?_) rfl ?_
                  rotate_left
                  · try (have hxx := HK7.out.gr (Below.trans HC.out hw'); have hq8 := cells8 hxx.doc; obtain ⟨k0, k1, k2, k3, k4, k5, k6, k7⟩ := hq8; have hqc := HCC.out _ hxx.bel; obtain ⟨c0, c1, c2, c3⟩ := hqc; clear hxx)
                    go_simp
                    with_reducible rfl
                  simp only [Act.put, List.setIfInBounds_toArray, List.set_cons_zero, List.set_cons_succ]
                  refine wpG_done (by kernel_rfl) ?_ _
                  go_wp2_with fail
                  go_meet
                  exact ⟨gk, A2, C2, rfl, rfl, HE5, HE7, HE6, HGB⟩
                · go_simp
                  have hb : Below wc.heap.size wc (wc.alloc (.cells #[.int .i64 0, .int .i64 0, .int .i64 0, .int .i64 0, .int .i64 0, .int .i64 0, .slice none 0 0, .int .i64 0] 42)) := (Below.refl _ _).alloc (Nat.le_refl _) _
                  refine ⟨hb.mono (Below.size HC.out), ?_⟩
                  have hk : (wc.alloc (.cells #[.int .i64 0, .int .i64 0, .int .i64 0, .int .i64 0, .int .i64 0, .int .i64 0, .slice none 0 0, .int .i64 0] 42)).heap[wc.heap.size]? = some (.cells #[.int .i64 0, .int .i64 0, .int .i64 0, .int .i64 0, .int .i64 0, .int .i64 0, .slice none 0 0, .int .i64 0] 42 (0, 0)) := heap_alloc_last _ _
                  have hgb : w7.heap.size ≤ wc.heap.size := Below.size HC.out
                  try (have HER' := Lib.hid (HER.out.below hb); clear HER; have HER := HER'; clear HER')
                  generalize wc.alloc (.cells #[.int .i64 0, .int .i64 0, .int .i64 0, .int .i64 0, .int .i64 0, .int .i64 0, .slice none 0 0, .int .i64 0] 42) = wn at *
                  have HC' : Hid (Gr w7 wn) := Below.trans HC.out (Below.mono hb (Below.size HC.out))
                  clear HC
                  have HC := HC'
                  clear HC'
                  obtain ⟨gk, hgk⟩ : ∃ g, g = wc.heap.size := ⟨_, rfl⟩
                  rw [← hgk] at hk hgb ⊢
                  have HK := Lib.hid hk
                  have HGB := Lib.hid hgb
                  clear hgk hb hk hgb
                  obtain ⟨wc, hwc⟩ : ∃ x, x = wn := ⟨_, rfl⟩
                  subst hwc
                  try simp only [Act.put, List.setIfInBounds_toArray, List.set_cons_zero, List.set_cons_succ]
                  refine wpG_one (i := 8) rfl (by kernel_rfl) (by rfl) ?_
                  go_simp
                  refine (RA.out wc (HK7.out.gr HC.out).er).mono ?_
                  rintro e wn ⟨A2, n2, C2, rfl, her, hb⟩
                  have hn2 := her.len.1
                  subst hn2
                  refine ⟨hb.mono (Below.size HC.out), ?_⟩
                  try (have HK' := Lib.hid (heap_below HK.out hb); clear HK; have HK := HK'; clear HK')
                  have HER := Lib.hid her
                  have HC' : Hid (Gr w7 wn) := Below.trans HC.out (Below.mono hb (Below.size HC.out))
                  clear HC hb her
                  have HC := HC'
                  clear HC'
                  obtain ⟨wc, hwc⟩ : ∃ x, x = wn := ⟨_, rfl⟩
                  subst hwc
                  try simp only [Act.put, List.setIfInBounds_toArray, List.set_cons_zero, List.set_cons_succ]
                  -- 9: slot 83
                  refine wpG_take (preBelow (w7.heap.size)) (i := 9) (v := ?_) (by kernel_rfl) (some 83) (by kernel_rfl) rfl (by kernel_rfl) (by kernel_rfl) (by kernel_rfl) (fun _ _ _ h => h) (by rfl) (fun w' hw' => ?_) rfl ?_
                  rotate_left
                  · try (have hxx := HK7.out.gr (Below.trans HC.out hw'); have hq8 := cells8 hxx.doc; obtain ⟨k0, k1, k2, k3, k4, k5, k6, k7⟩ := hq8; have hqc := HCC.out _ hxx.bel; obtain ⟨c0, c1, c2, c3⟩ := hqc; clear hxx)
                    go_simp
                    with_reducible rfl
                  simp only [Act.put, List.setIfInBounds_toArray, List.set_cons_zero, List.set_cons_succ]
                  -- 10: slot 93
                  refine wpG_take (preBelow (w7.heap.size)) (i := 10) (v := ?_) (by kernel_rfl) (some 93) (by kernel_rfl) rfl (by kernel_rfl) (by kernel_rfl) (by kernel_rfl) (fun _ _ _ h => h) (by rfl) (fun w' hw' => ?_) rfl ?_
                  rotate_left
                  · try (have hxx := HK7.out.gr (Below.trans HC.out hw'); have hq8 := cells8 hxx.doc; obtain ⟨k0, k1, k2, k3, k4, k5, k6, k7⟩ := hq8; have hqc := HCC.out _ hxx.bel; obtain ⟨c0, c1, c2, c3⟩ := hqc; clear hxx)
                    go_simp
                    with_reducible rfl
                  simp only [Act.put, List.setIfInBounds_toArray, List.set_cons_zero, List.set_cons_succ]
                  -- 11: slot 94
                  refine wpG_take (preBelow (w7.heap.size)) (i := 11) (v := ?_) (by kernel_rfl) (some 94) (by kernel_rfl) rfl (by kernel_rfl) (by kernel_rfl) (by kernel_rfl) (fun _ _ _ h => h) (by rfl) (fun w' hw' => ?_) rfl ?_
                  rotate_left
                  · try (have hxx := HK7.out.gr (Below.trans HC.out hw'); have hq8 := cells8 hxx.doc; obtain ⟨k0, k1, k2, k3, k4, k5, k6, k7⟩ := hq8; have hqc := HCC.out _ hxx.bel; obtain ⟨c0, c1, c2, c3⟩ := hqc; clear hxx)
                    go_simp
                    with_reducible rfl
                  simp only [Act.put, List.setIfInBounds_toArray, List.set_cons_zero, List.set_cons_succ]
                  refine wpG_one (i := 13) rfl (by kernel_rfl) (by rfl) ?_
                  refine wp_store_whole (none) 42 (.tmp 15) (.tmp 93) rfl gk [.int .i64 T.all.e, .int .i64 T.all.m, .int .i64 T.own.e, .int .i64 T.own.m, .int .i64 T.b.k, .int .i64 T.b.t, .slice A2 T.es.length C2, .int .i64 T.t] rfl rfl 42 [.int .i64 0, .int .i64 0, .int .i64 0, .int .i64 0, .int .i64 0, .int .i64 0, .slice none 0 0, .int .i64 0] HK.out (by kernel_rfl) rfl ?o1 rfl ?_
                  case o1 => intro u hu; simp only [List.mem_cons, List.not_mem_nil, or_false] at hu; rcases hu with rfl | rfl | rfl | rfl | rfl | rfl | rfl | rfl <;> rfl
                  intro wn h5 ho
                  refine ⟨ho.below _ _ HGB.out (Below.refl _ _), ?_⟩
                  have HE5 : Hid (wn.heap[gk]? = some (.cells #[.int .i64 T.all.e, .int .i64 T.all.m, .int .i64 T.own.e, .int .i64 T.own.m, .int .i64 T.b.k, .int .i64 T.b.t, .slice A2 T.es.length C2, .int .i64 T.t] 42 (0, 0))) := h5
                  have HE6 : Hid (Gr w7 wn) := ho.below _ _ HGB.out HC.out
                  have HE7 : Hid (ER wn (.slice A2 T.es.length C2) T.es) := HER.out.store HK.out no_u8 ho
                  clear h5 ho
                  try simp only [Act.put, List.setIfInBounds_toArray, List.set_cons_zero, List.set_cons_succ]
                  -- 14: slot 16
                  refine wpG_take (preBelow (w7.heap.size)) (i := 14) (v := ?_) (by kernel_rfl) (some 16) (by kernel_rfl) rfl (by kernel_rfl) (by kernel_rfl) (by kernel_rfl) (fun _ _ _ h => h) (by rfl) (fun w' hw' => ?_) rfl ?_
                  rotate_left
                  · try (have hxx := HK7.out.gr (Below.trans HC.out hw'); have hq8 := cells8 hxx.doc; obtain ⟨k0, k1, k2, k3, k4, k5, k6, k7⟩ := hq8; have hqc := HCC.out _ hxx.bel; obtain ⟨c0, c1, c2, c3⟩ := hqc; clear hxx)
                    go_simp
                    with_reducible rfl
                  simp only [Act.put, List.setIfInBounds_toArray, List.set_cons_zero, List.set_cons_succ]
                  refine wpG_done (by kernel_rfl) ?_ _
                  go_wp2_with fail
                  go_meet
                  exact ⟨gk, A2, C2, rfl, rfl, HE5, HE7, HE6, HGB⟩
              · go_simp
                have hb : Below wc.heap.size wc (wc.alloc (.cells #[.int .i64 0, .int .i64 0, .int .i64 0, .int .i64 0, .int .i64 0, .int .i64 0, .slice none 0 0, .int .i64 0] 42)) := (Below.refl _ _).alloc (Nat.le_refl _) _
                refine ⟨hb.mono (Below.size HC.out), ?_⟩
                have hk : (wc.alloc (.cells #[.int .i64 0, .int .i64 0, .int .i64 0, .int .i64 0, .int .i64 0, .int .i64 0, .slice none 0 0, .int .i64 0] 42)).heap[wc.heap.size]? = some (.cells #[.int .i64 0, .int .i64 0, .int .i64 0, .int .i64 0, .int .i64 0, .int .i64 0, .slice none 0 0, .int .i64 0] 42 (0, 0)) := heap_alloc_last _ _
                have hgb : w7.heap.size ≤ wc.heap.size := Below.size HC.out
                try (have HER' := Lib.hid (HER.out.below hb); clear HER; have HER := HER'; clear HER')
                generalize wc.alloc (.cells #[.int .i64 0, .int .i64 0, .int .i64 0, .int .i64 0, .int .i64 0, .int .i64 0, .slice none 0 0, .int .i64 0] 42) = wn at *
                have HC' : Hid (Gr w7 wn) := Below.trans HC.out (Below.mono hb (Below.size HC.out))
                clear HC
                have HC := HC'
                clear HC'
                obtain ⟨gk, hgk⟩ : ∃ g, g = wc.heap.size := ⟨_, rfl⟩
                rw [← hgk] at hk hgb ⊢
                have HK := Lib.hid hk
                have HGB := Lib.hid hgb
                clear hgk hb hk hgb
                obtain ⟨wc, hwc⟩ : ∃ x, x = wn := ⟨_, rfl⟩
                subst hwc
                try simp only [Act.put, List.setIfInBounds_toArray, List.set_cons_zero, List.set_cons_succ]
                refine wpG_one (i := 6) rfl (by kernel_rfl) (by rfl) ?_
                go_simp
                refine (mac_any qm wc).mono ?_
                rintro e wn ⟨rfl, hb⟩
                refine ⟨hb.mono (Below.size HC.out), ?_⟩
                try (have HK' := Lib.hid (heap_below HK.out hb); clear HK; have HK := HK'; clear HK')
                have HC' : Hid (Gr w7 wn) := Below.trans HC.out (Below.mono hb (Below.size HC.out))
                clear HC hb
                have HC := HC'
                clear HC'
                obtain ⟨wc, hwc⟩ : ∃ x, x = wn := ⟨_, rfl⟩
                subst hwc
                try simp only [Act.put, List.setIfInBounds_toArray, List.set_cons_zero, List.set_cons_succ]
                refine wpG_one (i := 8) rfl (by kernel_rfl) (by rfl) ?_
                go_simp
                refine (RA.out wc (HK7.out.gr HC.out).er).mono ?_
                rintro e wn ⟨A2, n2, C2, rfl, her, hb⟩
                have hn2 := her.len.1
                subst hn2
                refine ⟨hb.mono (Below.size HC.out), ?_⟩
                try (have HK' := Lib.hid (heap_below HK.out hb); clear HK; have HK := HK'; clear HK')
                have HER := Lib.hid her
                have HC' : Hid (Gr w7 wn) := Below.trans HC.out (Below.mono hb (Below.size HC.out))
                clear HC hb her
                have HC := HC'
                clear HC'
                obtain ⟨wc, hwc⟩ : ∃ x, x = wn := ⟨_, rfl⟩
                subst hwc
                try simp only [Act.put, List.setIfInBounds_toArray, List.set_cons_zero, List.set_cons_succ]
                -- 9: slot 83
                refine wpG_take (preBelow (w7.heap.size)) (i := 9) (v := ?_) (by kernel_rfl) (some 83) (by kernel_rfl) rfl (by kernel_rfl) (by kernel_rfl) (by kernel_rfl) (fun _ _ _ h => h) (by rfl) (fun w' hw' => ?_) rfl ?_
                rotate_left
                · try (have hxx := HK7.out.gr (Below.trans HC.out hw'); have hq8 := cells8 hxx.doc; obtain ⟨k0, k1, k2, k3, k4, k5, k6, k7⟩ := hq8; have hqc := HCC.out _ hxx.bel; obtain ⟨c0, c1, c2, c3⟩ := hqc; clear hxx)
                  go_simp
                  with_reducible rfl
                simp only [Act.put, List.setIfInBounds_toArray, List.set_cons_zero, List.set_cons_succ]
                -- 10: slot 93
                refine wpG_take (preBelow (w7.heap.size)) (i := 10) (v := ?_) (by kernel_rfl) (some 93) (by kernel_rfl) rfl (by kernel_rfl) (by kernel_rfl) (by kernel_rfl) (fun _ _ _ h => h) (by rfl) (fun w' hw' => ?_) rfl ?_
                rotate_left
                · try (have hxx := HK7.out.gr (Below.trans HC.out hw'); have hq8 := cells8 hxx.doc; obtain ⟨k0, k1, k2, k3, k4, k5, k6, k7⟩ := hq8; have hqc := HCC.out _ hxx.bel; obtain ⟨c0, c1, c2, c3⟩ := hqc; clear hxx)
                  go_simp
                  with_reducible rfl
                simp only [Act.put, List.setIfInBounds_toArray, List.set_cons_zero, List.set_cons_succ]
                -- 11: slot 94
                refine wpG_take (preBelow (w7.heap.size)) (i := 11) (v := ?_) (by kernel_rfl) (some 94) (by kernel_rfl) rfl (by kernel_rfl) (by kernel_rfl) (by kernel_rfl) (fun _ _ _ h => h) (by rfl) (fun w' hw' => ?_) rfl ?_
                rotate_left
                · try (have hxx := HK7.out.gr (Below.trans HC.out hw'); have hq8 := cells8 hxx.doc; obtain ⟨k0, k1, k2, k3, k4, k5, k6, k7⟩ := hq8; have hqc := HCC.out _ hxx.bel; obtain ⟨c0, c1, c2, c3⟩ := hqc; clear hxx)
                  go_simp
                  with_reducible rfl
                simp only [Act.put, List.setIfInBounds_toArray, List.set_cons_zero, List.set_cons_succ]
                refine wpG_one (i := 13) rfl (by kernel_rfl) (by rfl) ?_
                refine wp_store_whole (none) 42 (.tmp 15) (.tmp 93) rfl gk [.int .i64 T.all.e, .int .i64 T.all.m, .int .i64 T.own.e, .int .i64 T.own.m, .int .i64 T.b.k, .int .i64 T.b.t, .slice A2 T.es.length C2, .int .i64 T.t] rfl rfl 42 [.int .i64 0, .int .i64 0, .int .i64 0, .int .i64 0, .int .i64 0, .int .i64 0, .slice none 0 0, .int .i64 0] HK.out (by kernel_rfl) rfl ?o1 rfl ?_
                case o1 => intro u hu; simp only [List.mem_cons, List.not_mem_nil, or_false] at hu; rcases hu with rfl | rfl | rfl | rfl | rfl | rfl | rfl | rfl <;> rfl
                intro wn h5 ho
                refine ⟨ho.below _ _ HGB.out (Below.refl _ _), ?_⟩
                have HE5 : Hid (wn.heap[gk]? = some (.cells #[.int .i64 T.all.e, .int .i64 T.all.m, .int .i64 T.own.e, .int .i64 T.own.m, .int .i64 T.b.k, .int .i64 T.b.t, .slice A2 T.es.length C2, .int .i64 T.t] 42 (0, 0))) := h5
                have HE6 : Hid (Gr w7 wn) := ho.below _ _ HGB.out HC.out
                have HE7 : Hid (ER wn (.slice A2 T.es.length C2) T.es) := HER.out.store HK.out no_u8 ho
                clear h5 ho
                try simp only [Act.put, List.setIfInBounds_toArray, List.set_cons_zero, List.set_cons_succ]
                -- 14: slot 16
                refine wpG_take (preBelow (w7.heap.size)) (i := 14) (v := ?_) (by kernel_rfl) (some 16) (by kernel_rfl) rfl (by kernel_rfl) (by kernel_rfl) (by kernel_rfl) (fun _ _ _ h => h) (by rfl) (fun w' hw' => ?_) rfl ?_
                rotate_left
                · try (have hxx := HK7.out.gr (Below.trans HC.out hw'); have hq8 := cells8 hxx.doc; obtain ⟨k0, k1, k2, k3, k4, k5, k6, k7⟩ := hq8; have hqc := HCC.out _ hxx.bel; obtain ⟨c0, c1, c2, c3⟩ := hqc; clear hxx)
                  go_simp
                  with_reducible rfl
                simp only [Act.put, List.setIfInBounds_toArray, List.set_cons_zero, List.set_cons_succ]
                refine wpG_done (by kernel_rfl) ?_ _
                go_wp2_with fail
                go_meet
                exact ⟨gk, A2, C2, rfl, rfl, HE5, HE7, HE6, HGB⟩
            case rest =>
              obtain ⟨g15, A2, C2, hs15, hs16, h15, her, hgr, hg15⟩ := hcut
              subst hs15 hs16
              obtain ⟨w8, hw8⟩ : ∃ x, x = wc := ⟨_, rfl⟩
              subst hw8
              have HK8 := Lib.hid (HK7.out.gr hgr.out)
              have HER8 := Lib.hid her.out
              obtain ⟨k0, k1, k2, k3, k4, k5, k6, k7⟩ := cells8 h15.out
              have HD9 : Hid (w8.heap[b9]? = some (.cells ([.int .i64 S.all.e, .int .i64 S.all.m, .int .i64 S.own.e, .int .i64 S.own.m, .int .i64 S.b.k, .int .i64 S.b.t, .slice A S.es.length C, .int .i64 S.t] : List Value).toArray 42 (0, 0))) := HK8.out.doc
              have HI8 : Hid ((Try.prog.info? 42).map (·.size) = some ([.int .i64 T.all.e, .int .i64 T.all.m, .int .i64 T.own.e, .int .i64 T.own.m, .int .i64 T.b.k, .int .i64 T.b.t, .slice A2 T.es.length C2, .int .i64 T.t] : List Value).length) := by
                show _ = _
                kernel_rfl
              have HON8 : Hid (∀ u ∈ ([.int .i64 T.all.e, .int .i64 T.all.m, .int .i64 T.own.e, .int .i64 T.own.m, .int .i64 T.b.k, .int .i64 T.b.t, .slice A2 T.es.length C2, .int .i64 T.t] : List Value), u.oneCell' = true) := by
                intro u hu; simp only [List.mem_cons, List.not_mem_nil, or_false] at hu; rcases hu with rfl | rfl | rfl | rfl | rfl | rfl | rfl | rfl <;> rfl
              clear h15 her hgr hg15 HK7 RA
              go_upto_region 18 with (with_reducible refine wpList_store_whole rfl 42 (.tmp 9) (.tmp 95) rfl b9 [.int .i64 T.all.e, .int .i64 T.all.m, .int .i64 T.own.e, .int .i64 T.own.m, .int .i64 T.b.k, .int .i64 T.b.t, .slice A2 T.es.length C2, .int .i64 T.t] rfl rfl 42 _ HD9.out HI8.out rfl HON8.out ?_)
              intro w9 h9 ho9
              have hne1 : b9 ≠ g := by
                rintro rfl
                have h1 := HK8.out.doc
                rw [HK8.out.lim.row] at h1
                simp at h1
              have hne2 : b9 ≠ bm := by
                rintro rfl
                obtain ⟨a, c, hm⟩ := HK8.out.lim.map.obj
                rw [HK8.out.doc] at hm
                cases hm
              have HJ9 : Hid (RJ g bm b9 W w9 T A2 C2) :=
                ⟨HK8.out.lim.keep (ho9.heap _ HK8.out.lim.lt.1 (Ne.symm hne1)) (ho9.heap _ HK8.out.lim.lt.2 (Ne.symm hne2)), h9, HER8.out.store HD9.out no_u8 ho9, ho9.below _ _ HGE.out.2.2 HK8.out.bel, HGE.out⟩
              clear h9 ho9 hne1 hne2 k0 k1 k2 k3 k4 k5 k6 k7 HK8 HER8 HD9 HI8 HON8
              go_upto_region 18 with fail
              have hxx : (X != X) = false := by simp
              have HC : Hid (Gr w9 w9.drew) := Gr.drew w9
              refine wp_region_G 18 Gr (by kernel_rfl) ?_
              generalize w9.drew = wc at HC ⊢
              -- 0: slot 96
              refine wpG_take preGr (i := 0) (v := ?_) (by kernel_rfl) (some 96) (by kernel_rfl) rfl (by kernel_rfl) (by kernel_rfl) (by kernel_rfl) (fun _ _ _ h => h) (by rfl) (fun w' hw' => ?_) rfl ?_
              rotate_left
              · try (have hxw := HJ9.out.gr (Gr.trans HC.out hw'); have hq8 := cells8 hxw.doc; obtain ⟨k0, k1, k2, k3, k4, k5, k6, k7⟩ := hq8; clear hxw)
                go_simp
                with_reducible rfl
              simp only [Act.put, List.setIfInBounds_toArray, List.set_cons_zero, List.set_cons_succ]
              -- 1: slot 97
              refine wpG_take preGr (i := 1) (v := ?_) (by kernel_rfl) (some 97) (by kernel_rfl) rfl (by kernel_rfl) (by kernel_rfl) (by kernel_rfl) (fun _ _ _ h => h) (by rfl) (fun w' hw' => ?_) rfl ?_
              rotate_left
              · try (have hxw := HJ9.out.gr (Gr.trans HC.out hw'); have hq8 := cells8 hxw.doc; obtain ⟨k0, k1, k2, k3, k4, k5, k6, k7⟩ := hq8; clear hxw)
                go_simp
                with_reducible rfl
              simp only [Act.put, List.setIfInBounds_toArray, List.set_cons_zero, List.set_cons_succ]
              -- 2: slot 98
              refine wpG_take preGr (i := 2) (v := ?_) (by kernel_rfl) (some 98) (by kernel_rfl) rfl (by kernel_rfl) (by kernel_rfl) (by kernel_rfl) (fun _ _ _ h => h) (by rfl) (fun w' hw' => ?_) rfl ?_
              rotate_left
              · try (have hxw := HJ9.out.gr (Gr.trans HC.out hw'); have hq8 := cells8 hxw.doc; obtain ⟨k0, k1, k2, k3, k4, k5, k6, k7⟩ := hq8; clear hxw)
                go_simp
                with_reducible rfl
              simp only [Act.put, List.setIfInBounds_toArray, List.set_cons_zero, List.set_cons_succ]
              -- 3: slot 99
              refine wpG_take preGr (i := 3) (v := ?_) (by kernel_rfl) (some 99) (by kernel_rfl) rfl (by kernel_rfl) (by kernel_rfl) (by kernel_rfl) (fun _ _ _ h => h) (by rfl) (fun w' hw' => ?_) rfl ?_
              rotate_left
              · try (have hxw := HJ9.out.gr (Gr.trans HC.out hw'); have hq8 := cells8 hxw.doc; obtain ⟨k0, k1, k2, k3, k4, k5, k6, k7⟩ := hq8; clear hxw)
                go_simp
                with_reducible rfl
              simp only [Act.put, List.setIfInBounds_toArray, List.set_cons_zero, List.set_cons_succ]
              -- 4: slot 100
              refine wpG_take preGr (i := 4) (v := ?_) (by kernel_rfl) (some 100) (by kernel_rfl) rfl (by kernel_rfl) (by kernel_rfl) (by kernel_rfl) (fun _ _ _ h => h) (by rfl) (fun w' hw' => ?_) rfl ?_
              rotate_left
              · try (have hxw := HJ9.out.gr (Gr.trans HC.out hw'); have hq8 := cells8 hxw.doc; obtain ⟨k0, k1, k2, k3, k4, k5, k6, k7⟩ := hq8; clear hxw)
                go_simp
                with_reducible rfl
              simp only [Act.put, List.setIfInBounds_toArray, List.set_cons_zero, List.set_cons_succ]
              -- 6: slot 102
              refine wpG_take preGr (i := 6) (v := ?_) (by kernel_rfl) (some 102) (by kernel_rfl) rfl (by kernel_rfl) (by kernel_rfl) (by kernel_rfl) (fun _ _ _ h => h) (by rfl) (fun w' hw' => ?_) rfl ?_
              rotate_left
              · try (have hxw := HJ9.out.gr (Gr.trans HC.out hw'); have hq8 := cells8 hxw.doc; obtain ⟨k0, k1, k2, k3, k4, k5, k6, k7⟩ := hq8; clear hxw)
                go_simp
                with_reducible rfl
              simp only [Act.put, List.setIfInBounds_toArray, List.set_cons_zero, List.set_cons_succ]
              -- 7: slot 103
              refine wpG_take preGr (i := 7) (v := ?_) (by kernel_rfl) (some 103) (by kernel_rfl) rfl (by kernel_rfl) (by kernel_rfl) (by kernel_rfl) (fun _ _ _ h => h) (by rfl) (fun w' hw' => ?_) rfl ?_
              rotate_left
              · try (have hxw := HJ9.out.gr (Gr.trans HC.out hw'); have hq8 := cells8 hxw.doc; obtain ⟨k0, k1, k2, k3, k4, k5, k6, k7⟩ := hq8; clear hxw)
                go_simp
                with_reducible rfl
              simp only [Act.put, List.setIfInBounds_toArray, List.set_cons_zero, List.set_cons_succ]
              -- 8: slot 104
              refine wpG_take preGr (i := 8) (v := ?_) (by kernel_rfl) (some 104) (by kernel_rfl) rfl (by kernel_rfl) (by kernel_rfl) (by kernel_rfl) (fun _ _ _ h => h) (by rfl) (fun w' hw' => ?_) rfl ?_
              rotate_left
              · try (have hxw := HJ9.out.gr (Gr.trans HC.out hw'); have hq8 := cells8 hxw.doc; obtain ⟨k0, k1, k2, k3, k4, k5, k6, k7⟩ := hq8; clear hxw)
                go_simp
                with_reducible rfl
              simp only [Act.put, List.setIfInBounds_toArray, List.set_cons_zero, List.set_cons_succ]
              refine wpG_one (i := 5) rfl (by kernel_rfl) (by rfl) ?_
              go_simp
              refine (len_any g bm wc (HJ9.out.gr HC.out).lim).mono ?_
              rintro e wn ⟨rfl, rfl⟩
              refine ⟨Gr.refl _, ?_⟩
              try simp only [Act.put, List.setIfInBounds_toArray, List.set_cons_zero, List.set_cons_succ]
              -- 9: slot 105
              refine wpG_take preGr (i := 9) (v := ?_) (by kernel_rfl) (some 105) (by kernel_rfl) rfl (by kernel_rfl) (by kernel_rfl) (by kernel_rfl) (fun _ _ _ h => h) (by rfl) (fun w' hw' => ?_) rfl ?_
              rotate_left
              · try (have hxw := HJ9.out.gr (Gr.trans HC.out hw'); have hq8 := cells8 hxw.doc; obtain ⟨k0, k1, k2, k3, k4, k5, k6, k7⟩ := hq8; clear hxw)
                go_simp
                with_reducible rfl
              simp only [Act.put, List.setIfInBounds_toArray, List.set_cons_zero, List.set_cons_succ]
              -- 10: slot 106
              refine wpG_take preGr (i := 10) (v := ?_) (by kernel_rfl) (some 106) (by kernel_rfl) rfl (by kernel_rfl) (by kernel_rfl) (by kernel_rfl) (fun _ _ _ h => h) (by rfl) (fun w' hw' => ?_) rfl ?_
              rotate_left
              · try (have hxw := HJ9.out.gr (Gr.trans HC.out hw'); have hq8 := cells8 hxw.doc; obtain ⟨k0, k1, k2, k3, k4, k5, k6, k7⟩ := hq8; clear hxw)
                go_simp
                with_reducible rfl
              simp only [Act.put, List.setIfInBounds_toArray, List.set_cons_zero, List.set_cons_succ]
              -- 11: slot 107
              refine wpG_take preGr (i := 11) (v := ?_) (by kernel_rfl) (some 107) (by kernel_rfl) rfl (by kernel_rfl) (by kernel_rfl) (by kernel_rfl) (fun _ _ _ h => h) (by rfl) (fun w' hw' => ?_) rfl ?_
              rotate_left
              · try (have hxw := HJ9.out.gr (Gr.trans HC.out hw'); have hq8 := cells8 hxw.doc; obtain ⟨k0, k1, k2, k3, k4, k5, k6, k7⟩ := hq8; clear hxw)
                go_simp
                with_reducible rfl
              simp only [Act.put, List.setIfInBounds_toArray, List.set_cons_zero, List.set_cons_succ]
              -- 12: slot 108
              refine wpG_take preGr (i := 12) (v := ?_) (by kernel_rfl) (some 108) (by kernel_rfl) rfl (by kernel_rfl) (by kernel_rfl) (by kernel_rfl) (fun _ _ _ h => h) (by rfl) (fun w' hw' => ?_) rfl ?_
              rotate_left
              · try (have hxw := HJ9.out.gr (Gr.trans HC.out hw'); have hq8 := cells8 hxw.doc; obtain ⟨k0, k1, k2, k3, k4, k5, k6, k7⟩ := hq8; clear hxw)
                go_simp
                with_reducible rfl
              simp only [Act.put, List.setIfInBounds_toArray, List.set_cons_zero, List.set_cons_succ]
              -- 14: slot 110
              refine wpG_take preGr (i := 14) (v := ?_) (by kernel_rfl) (some 110) (by kernel_rfl) rfl (by kernel_rfl) (by kernel_rfl) (by kernel_rfl) (fun _ _ _ h => h) (by rfl) (fun w' hw' => ?_) rfl ?_
              rotate_left
              · try (have hxw := HJ9.out.gr (Gr.trans HC.out hw'); have hq8 := cells8 hxw.doc; obtain ⟨k0, k1, k2, k3, k4, k5, k6, k7⟩ := hq8; clear hxw)
                go_simp
                with_reducible rfl
              simp only [Act.put, List.setIfInBounds_toArray, List.set_cons_zero, List.set_cons_succ]
              -- 15: slot 111
              refine wpG_take preGr (i := 15) (v := ?_) (by kernel_rfl) (some 111) (by kernel_rfl) rfl (by kernel_rfl) (by kernel_rfl) (by kernel_rfl) (fun _ _ _ h => h) (by rfl) (fun w' hw' => ?_) rfl ?_
              rotate_left
              · try (have hxw := HJ9.out.gr (Gr.trans HC.out hw'); have hq8 := cells8 hxw.doc; obtain ⟨k0, k1, k2, k3, k4, k5, k6, k7⟩ := hq8; clear hxw)
                go_simp
                with_reducible rfl
              simp only [Act.put, List.setIfInBounds_toArray, List.set_cons_zero, List.set_cons_succ]
              refine wpG_one (i := 13) rfl (by kernel_rfl) (by rfl) ?_
              go_simp
              refine (tick_any g bm wc (HJ9.out.gr HC.out).lim).mono ?_
              rintro e wn ⟨rfl, rfl⟩
              refine ⟨Gr.refl _, ?_⟩
              try simp only [Act.put, List.setIfInBounds_toArray, List.set_cons_zero, List.set_cons_succ]
              -- 16: slot 112
              refine wpG_take preGr (i := 16) (v := ?_) (by kernel_rfl) (some 112) (by kernel_rfl) rfl (by kernel_rfl) (by kernel_rfl) (by kernel_rfl) (fun _ _ _ h => h) (by rfl) (fun w' hw' => ?_) rfl ?_
              rotate_left
              · try (have hxw := HJ9.out.gr (Gr.trans HC.out hw'); have hq8 := cells8 hxw.doc; obtain ⟨k0, k1, k2, k3, k4, k5, k6, k7⟩ := hq8; clear hxw)
                go_simp
                with_reducible rfl
              simp only [Act.put, List.setIfInBounds_toArray, List.set_cons_zero, List.set_cons_succ]
              -- 17: slot 113
              refine wpG_take preGr (i := 17) (v := ?_) (by kernel_rfl) (some 113) (by kernel_rfl) rfl (by kernel_rfl) (by kernel_rfl) (by kernel_rfl) (fun _ _ _ h => h) (by rfl) (fun w' hw' => ?_) rfl ?_
              rotate_left
              · try (have hxw := HJ9.out.gr (Gr.trans HC.out hw'); have hq8 := cells8 hxw.doc; obtain ⟨k0, k1, k2, k3, k4, k5, k6, k7⟩ := hq8; clear hxw)
                go_simp
                with_reducible rfl
              simp only [Act.put, List.setIfInBounds_toArray, List.set_cons_zero, List.set_cons_succ]
              refine wpG_done (by kernel_rfl) ?_ _
              go_wp2_with fail
              go_roundw
              case rel =>
                have HJW := HJ9.out.gr HC.out
                first
                  | exact ⟨i + 1, tk2, T, A2, C2, by omega, by omega, by go_num, rfl, HTK.out.1, by have := HTK.out.2; omega, HJW⟩
                  | ((repeat apply Exists.intro); exact ⟨⟨i + 1, tk2, T, A2, C2, by omega, by omega, by go_num, rfl, HTK.out.1, by have := HTK.out.2; omega, HJW⟩, rfl⟩)
              case measure => simp [intOf]; omega
        · go_wp2
          go_ret
          exact ⟨rfl, HJ.out.bel⟩
      · go_wp2
        go_ret
        exact ⟨rfl, HJ.out.bel⟩
  · have HNK := Lib.hid hok
    clear hok HG0 HG1
    have HG0 : Hid (((W.alloc (.cells #[.int .i64 ae, .int .i64 am] 23)).alloc (.cells #[.int .i64 oe, .int .i64 om] 23)).heap[W.heap.size]? = some (.cells #[.int .i64 ae, .int .i64 am] 23 (0, 0))) := boxed_0 _ _ _
    have HG1 : Hid (((W.alloc (.cells #[.int .i64 ae, .int .i64 am] 23)).alloc (.cells #[.int .i64 oe, .int .i64 om] 23)).heap[W.heap.size + 1]? = some (.cells #[.int .i64 oe, .int .i64 om] 23 (0, 0))) := boxed_1 _ _ _
    go_enter Try.func6, Try.ntmps6
    go_wp2_with fail
    generalize ((W.alloc (.cells #[.int .i64 ae, .int .i64 am] 23)).alloc (.cells #[.int .i64 oe, .int .i64 om] 23)) = w1 at HB HG0 HG1 ⊢
    refine (new_no ae am oe om HNK.out w1).mono ?_
    rintro e w2 ⟨rfl, hb⟩
    have HB2 := Lib.hid (HB.out.trans (hb.mono HB.out.size))
    obtain ⟨k0, k1⟩ := cells2 (heap_below HG0.out hb)
    obtain ⟨m0, m1⟩ := cells2 (heap_below HG1.out hb)
    clear hb
    go_wp2_with fail
    refine (rnew_no ae am oe om HNK.out w2).mono ?_
    rintro e w3 ⟨rfl, hb⟩
    have HB3 : Hid (Below W.heap.size W (w3.alloc (.cells #[.int .i64 0, .int .i64 0, .int .i64 0, .int .i64 0, .int .i64 0, .int .i64 0, .slice none 0 0, .int .i64 0] 42))) := (HB2.out.trans (hb.mono HB2.out.size)).alloc (Nat.le_trans HB2.out.size hb.size) _
    clear hb k0 k1 m0 m1
    go_upto_region 3 with fail
    generalize w3.alloc (.cells #[.int .i64 0, .int .i64 0, .int .i64 0, .int .i64 0, .int .i64 0, .int .i64 0, .slice none 0 0, .int .i64 0] 42) = w4 at HB3 ⊢
    go_wp2_with fail
    refine (HA.out _).mono ?_
    rintro e w5 ⟨rfl, hb⟩
    have HB5 := Lib.hid (HB3.out.trans (hb.mono HB3.out.size))
    clear hb
    go_wp2
    go_ret
    exact ⟨rfl, HB5.out⟩

theorem own : ownKnob Try.prog.godebug = none := by kernel_rfl
theorem laidOut : laidOutB Try.prog = true := by kernel_rfl
set_option maxRecDepth 100000 in
theorem lifted (os : Os) (started : os.Started) (H : Type) (enc : TypeId × Value → H) :
    ReturnsInHanded {} Try.checked os 6 .any (Rows.bucketLimiterRunsSpec.pre6 enc Try.prog Try.f6 Rows.bucketLimiterRunsRow.domain false) (Rows.bucketLimiterRunsSpec.post enc Try.prog Try.f6 false true false false) := by
  refine returnsInHanded_of_change (C := Try.checked) own started (by kernel_rfl) Try.func6
    (ChangeSpec.witness6 (enc := enc) (C := Try.checked) false ⟨#[], #[.agg #[.int .i64 0, .int .i64 0], .agg #[.int .i64 0, .int .i64 0], .slice none 0 0], []⟩ 8 (by kernel_rfl) (by kernel_rfl) (by kernel_rfl) (by kernel_rfl)) ?_
  intro W base args ds gs before hval0 hW hcnd _
  have hval : ∀ (j : Nat) t v, Try.f6.params[j]? = some t → args[j]? = some v → Value.okWide Try.prog W .any base t v := hval0
  have hW' := hW
  obtain ⟨p, q, hA0, hV, rfl, hfz, hnd⟩ := hW
  have hA : DataW.TrodAll enc Try.prog W 0 (fun _ => true) true Try.f6.params.toList args.toList ds p := hA0
  rw [Try.params6] at hA hval
  obtain ⟨v0, vs0, d0, ds0, p0, q0, hargs, rfl, rfl, h0, r0⟩ := trodAll_cons hA
  obtain ⟨v1, vs1, d1, ds1, p1, q1, rfl, rfl, rfl, h1, r1⟩ := trodAll_cons r0
  obtain ⟨v2, vs2, d2, ds2, p2, q2, rfl, rfl, rfl, h2, r2⟩ := trodAll_cons r1
  obtain ⟨rfl, rfl, rfl⟩ := trodAll_nil r2
  obtain rfl : args = #[v0, v1, v2] := by cases args; simp_all
  obtain ⟨rfl, rfl⟩ := trodVars_none hV
  have k0 := h0
  have lt0 : ∀ x ∈ p0, x.block < W.heap.size := by obtain ⟨m, hm⟩ := k0; exact DataW.trod_lt m _ _ _ hm
  obtain ⟨x0, y0, rfl, wx0, wy0⟩ := open_two Try.underlying23 ⟨rfl, rfl⟩ Try.underlying3 Try.underlying3 ⟨by kernel_rfl, by kernel_rfl, by kernel_rfl⟩ (hval 0 23 v0 rfl rfl) h0
  have k1 := h1
  have lt1 : ∀ x ∈ p1, x.block < W.heap.size := by obtain ⟨m, hm⟩ := k1; exact DataW.trod_lt m _ _ _ hm
  obtain ⟨x1, y1, rfl, wx1, wy1⟩ := open_two Try.underlying23 ⟨rfl, rfl⟩ Try.underlying3 Try.underlying3 ⟨by kernel_rfl, by kernel_rfl, by kernel_rfl⟩ (hval 1 23 v1 rfl rfl) h1
  have k2 := h2
  have lt2 : ∀ x ∈ p2, x.block < W.heap.size := by obtain ⟨m, hm⟩ := k2; exact DataW.trod_lt m _ _ _ hm
  obtain ⟨a2, n2, c2, qs2, rfl, b2⟩ := open_asks Try.underlying36 Try.underlying46 ⟨rfl, rfl, rfl, rfl⟩ Try.underlying5 Try.underlying5 Try.underlying4 Try.underlying3 ⟨by kernel_rfl, by kernel_rfl, by kernel_rfl, by kernel_rfl, by kernel_rfl⟩ (hval 2 36 v2 rfl rfl) h2
  clear hA0 hval0
  refine (walk W x0 y0 wx0 wy0 x1 y1 wx1 wy1 a2 n2 c2 qs2 b2).mono fun e W' ⟨he, bel⟩ => ?_
  subst he
  exact ⟨_, rfl, _, _, _, [], _, [], hW', trodAll_mk1 (shut_bool Try.underlying4 _), (trodAll_cons_mk (Below.trod laidOut (by kernel_rfl) (of_decide_eq_true (by kernel_rfl)) k0 bel lt0) (trodAll_cons_mk (Below.trod laidOut (by kernel_rfl) (of_decide_eq_true (by kernel_rfl)) k1 bel lt1) (trodAll_cons_mk (Below.trod laidOut (by kernel_rfl) (of_decide_eq_true (by kernel_rfl)) k2 bel lt2) trodAll_mk0))), rfl, bel.frame _, fun h => by cases h⟩
theorem over : Rows.bucketLimiterRunsRow.holds Try.pinned (OpenSpec.ofChange Rows.bucketLimiterRunsSpec) :=
  OpenClaim.holds_of_wide 6 Try.f6 rfl rfl rfl rfl rfl rfl rfl ⟨rfl, rfl, rfl, rfl, rfl⟩ rfl rfl rfl rfl rfl (by kernel_rfl) Try.func6 (by kernel_rfl)
    (of_decide_eq_true (by kernel_rfl)) (by unfold Func.isWrapper; first | (rw [if_pos (by decide +kernel)]; kernel_rfl) | (rw [if_neg (by decide +kernel)]; exact ⟨rfl, rfl⟩))
    (fun os started H enc _ => lifted os started H enc)
/-- The statement. -/
theorem proved : Rows.BucketLimiterRunsSaid := over
end Go.Proofs.Ytblnglkjpnpmbaa.bucketLimiterRuns
