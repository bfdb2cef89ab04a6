/-
  For every packet, name and services (no more of each than is looked at) and number: what pppoe.Client tells is told again by an offer, a session, a refusal, once; each is of its code and session (conciergelaw06.PppoeAgain answers true). No conditions.
-/
import Derived.Test.YtcpeglljcipcbaaPpU
import Derived.Test.YtcpeglljcipcbaaPpS
import Derived.Test.YtcpeglljcipcbaaOpenP
import Derived.ProofKit
import Derived.OpenShut
import Derived.ShutString
import Derived.ChangeOld
import Derived.Deep.DeepCutAuto
namespace Go.Proofs.Ytcpeglljcipcbaa.pppoeAgain
open Go.ChangeShapes Go.WideShapes Go.ChangeAt Go.RowKit
open Go.ChangeMaps (open_string shut_string)
set_option linter.unusedVariables false
set_option linter.unusedSimpArgs false

/-- A packet in a block of its own. -/
def PkAt (w4 wx : World) (s : Value) (r : PP × Int) : Prop := ∃ g A L C, s = .pointer (some ⟨g, 0, none⟩) ∧ wx.heap[g]? = some (.cells #[.int .i64 r.1.c, .int .i64 r.1.s, .slice A L C] 24 (0, 0)) ∧ Bs wx (.slice A L C) r.1.l ∧ Below w4.heap.size w4 wx
theorem Gr.trans' {w w' w'' : World} (h : Gr w w') (k : Below w.heap.size w' w'') : Below w.heap.size w w'' := Below.trans h k

set_option maxRecDepth 100000 in
set_option maxHeartbeats 16000000 in
/-- Behind the name's cut. -/
theorem rest (W : World) (C0 S0 : Int) (a0 : Option Addr) (n0 c0 : Nat) (l0 : List UInt8) (hn0 : l0.length = n0) (b0 : Bs W (.slice a0 n0 c0) l0) (y : ByteArray) (hy : y.size ≤ 1600) (a1 : Option Addr) (n1 c1 : Nat) (ss : List ByteArray) (b1 : Rd W 1 (.slice a1 n1 c1) n1 (ss.map Value.string)) (id : Int)
    (Y : ByteArray) (hY : (Y.size ≤ 200 ∧ Y = y) ∨ (¬ Y.size ≤ 200 ∧ Y.extract 0 200 = y)) :
    Calls Try.prog 7 #[.agg #[.int .i64 C0, .int .i64 S0, .slice a0 n0 c0], .string Y, .slice a1 n1 c1, .int .i64 id] W fun e w' => e = .returned (.bool true) ∧ Below W.heap.size W w' := by
  obtain ⟨m0, x0, hm0, hx0, u0, hc0⟩ := cut6_in hn0 b0
  have HC0 := Lib.hid hc0
  have HX0 := Lib.hid hx0
  have HSS := Lib.hid b1
  have HB1 : Hid (Below W.heap.size W (W.alloc (.cells #[.int .i64 C0, .int .i64 S0, .slice a0 m0 c0] 24))) := (Below.refl _ _).alloc (Nat.le_refl _) _
  have CL := Lib.hid (client_any C0 S0 a0 m0 c0 x0 HX0.out _ (u0.below HB1.out) (by omega))
  have HY := Lib.hid hy
  have AW := Lib.hid awake_any
  clear hn0 b0 u0 hc0 hx0 b1 hy
  go_enter Try.func7, Try.ntmps7
  go_wp2_with fail
  refine (HC0.out _).mono ?_
  rintro e w' ⟨rfl, rfl⟩
  go_upto_if 23 with fail
  go_cut [1] (fun s1 wx => s1 = .string y ∧ wx = W.alloc (.cells #[.int .i64 C0, .int .i64 S0, .slice a0 m0 c0] 24))
  case first =>
    rcases hY with ⟨hY1, hY2⟩ | ⟨hY1, hY2⟩
    · obtain rfl : y = Y := hY2.symm
      go_wp2_with fail
      go_meet
      exact ⟨rfl, rfl⟩
    · go_wp2_with fail
      go_meet
      exact ⟨rfl, rfl⟩
  case rest =>
    obtain ⟨rfl, rfl⟩ := hcut
    clear hY
    go_wp2_with fail
    refine CL.out.mono ?_
    rintro e w2 ⟨d, rfl, hpl, hdo, hb2⟩
    obtain ⟨k2, hk2⟩ : ∃ k, k = (cliP ⟨C0, S0, x0⟩).2 := ⟨_, rfl⟩
    have hcs := cli_short (p := ⟨C0, S0, x0⟩)
    rw [← hpl, ← hk2] at hcs
    have HDS : Hid (DShort d) := ⟨hcs.2.1, hcs.2.2.1, hcs.2.2.2.1, hcs.2.2.2.2⟩
    have hk01 := hcs.1
    rw [← hk2]
    have hE2 : Below w2.heap.size w2 (w2.alloc (.cells #[.int .i64 d.c, .int .i64 d.s, .string d.v, .slice d.ua d.un d.uc, .slice d.ra d.rn d.rc, .bool d.hu, .bool d.hr, .slice d.ka d.kn d.kc] 36)) := (Below.refl _ _).alloc (Nat.le_refl _) _
    have hB2 := hb2.trans (hE2.mono hb2.size)
    have HB3 := Lib.hid (HB1.out.trans (hB2.mono HB1.out.size))
    have HGD3 : Hid ((w2.alloc (.cells #[.int .i64 d.c, .int .i64 d.s, .string d.v, .slice d.ua d.un d.uc, .slice d.ra d.rn d.rc, .bool d.hu, .bool d.hr, .slice d.ka d.kn d.kc] 36)).heap[w2.heap.size]? = some (.cells #[.int .i64 d.c, .int .i64 d.s, .string d.v, .slice d.ua d.un d.uc, .slice d.ra d.rn d.rc, .bool d.hu, .bool d.hr, .slice d.ka d.kn d.kc] 36 (0, 0))) := heap_alloc_last _ _
    have hdk : DOk w2 d := ⟨hdo.u.bs, hdo.r.bs, hdo.k.bs⟩
    have HD3 := Lib.hid (hdk.below hE2)
    clear hpl hdo hb2 hk2 hcs hE2 hB2 hdk CL
    go_wp2_with fail
    refine (AW.out _).mono ?_
    rintro e w4 ⟨rfl, hb4⟩
    have HB4 := Lib.hid (HB3.out.trans (hb4.mono HB3.out.size))
    have HGD4 := Lib.hid (heap_below HGD3.out hb4)
    have HD4 := Lib.hid (HD3.out.below hb4)
    have NM : Hid (∀ w', Gr w4 w' → Calls Try.prog 16 #[.slice a1 n1 c1] w' fun e w'' => ∃ a' n' c' us, e = .returned (.slice a' n' c') ∧ StrR w'' a' n' c' us ∧ w''.ownsRow w'.heap.size 9 1 (.slice a' n' c') n' (us.map Value.string) ∧ Below w'.heap.size w' w'') := fun w' h => names_any a1 n1 c1 ss w' (HSS.out.below (HB4.out.trans (Below.mono h HB4.out.size)))
    clear hb4 HGD3 HD3 HB3
    rcases hk01 with hk01 | hk01
    · subst hk01
      go_upto_region 9 with fail
      go_cut [11, 12] (fun s11 s12 wx => ∃ us, s12 = .int .i64 (offerP y us d.plain cook).2 ∧ Hid (PkAt w4 wx s11 (offerP y us d.plain cook)))
      case first =>
        have HC : Hid (Gr w4 w4.drew) := Gr.drew w4
        refine wp_region_G 13 (Below (w4.heap.size)) (by kernel_rfl) ?_
        generalize w4.drew = wc at HC ⊢
        -- 0: slot 38
        refine wpG_take (preBelow (w4.heap.size)) (i := 0) (v := ?_) (by kernel_rfl) (some 38) (by kernel_rfl) rfl (by kernel_rfl) (by kernel_rfl) (by kernel_rfl) (fun _ _ _ h => h) (by rfl) (fun w' hw' => ?_) rfl ?_
        rotate_left
        · try have g0 := (cells8 (heap_below HGD4.out (Gr.trans' HC.out hw'))).1
          try have g1 := (cells8 (heap_below HGD4.out (Gr.trans' HC.out hw'))).2.1
          try have g2 := (cells8 (heap_below HGD4.out (Gr.trans' HC.out hw'))).2.2.1
          try have g3 := (cells8 (heap_below HGD4.out (Gr.trans' HC.out hw'))).2.2.2.1
          try have g4 := (cells8 (heap_below HGD4.out (Gr.trans' HC.out hw'))).2.2.2.2.1
          try have g5 := (cells8 (heap_below HGD4.out (Gr.trans' HC.out hw'))).2.2.2.2.2.1
          try have g6 := (cells8 (heap_below HGD4.out (Gr.trans' HC.out hw'))).2.2.2.2.2.2.1
          try have g7 := (cells8 (heap_below HGD4.out (Gr.trans' HC.out hw'))).2.2.2.2.2.2.2
          go_simp
          with_reducible rfl
        simp only [Act.put, List.setIfInBounds_toArray, List.set_cons_zero, List.set_cons_succ]
        -- 1: slot 39
        refine wpG_take (preBelow (w4.heap.size)) (i := 1) (v := ?_) (by kernel_rfl) (some 39) (by kernel_rfl) rfl (by kernel_rfl) (by kernel_rfl) (by kernel_rfl) (fun _ _ _ h => h) (by rfl) (fun w' hw' => ?_) rfl ?_
        rotate_left
        · try have g0 := (cells8 (heap_below HGD4.out (Gr.trans' HC.out hw'))).1
          try have g1 := (cells8 (heap_below HGD4.out (Gr.trans' HC.out hw'))).2.1
          try have g2 := (cells8 (heap_below HGD4.out (Gr.trans' HC.out hw'))).2.2.1
          try have g3 := (cells8 (heap_below HGD4.out (Gr.trans' HC.out hw'))).2.2.2.1
          try have g4 := (cells8 (heap_below HGD4.out (Gr.trans' HC.out hw'))).2.2.2.2.1
          try have g5 := (cells8 (heap_below HGD4.out (Gr.trans' HC.out hw'))).2.2.2.2.2.1
          try have g6 := (cells8 (heap_below HGD4.out (Gr.trans' HC.out hw'))).2.2.2.2.2.2.1
          try have g7 := (cells8 (heap_below HGD4.out (Gr.trans' HC.out hw'))).2.2.2.2.2.2.2
          go_simp
          with_reducible rfl
        simp only [Act.put, List.setIfInBounds_toArray, List.set_cons_zero, List.set_cons_succ]
        -- 3: slot 41
        refine wpG_take (preBelow (w4.heap.size)) (i := 3) (v := ?_) (by kernel_rfl) (some 41) (by kernel_rfl) rfl (by kernel_rfl) (by kernel_rfl) (by kernel_rfl) (fun _ _ _ h => h) (by rfl) (fun w' hw' => ?_) rfl ?_
        rotate_left
        · try have g0 := (cells8 (heap_below HGD4.out (Gr.trans' HC.out hw'))).1
          try have g1 := (cells8 (heap_below HGD4.out (Gr.trans' HC.out hw'))).2.1
          try have g2 := (cells8 (heap_below HGD4.out (Gr.trans' HC.out hw'))).2.2.1
          try have g3 := (cells8 (heap_below HGD4.out (Gr.trans' HC.out hw'))).2.2.2.1
          try have g4 := (cells8 (heap_below HGD4.out (Gr.trans' HC.out hw'))).2.2.2.2.1
          try have g5 := (cells8 (heap_below HGD4.out (Gr.trans' HC.out hw'))).2.2.2.2.2.1
          try have g6 := (cells8 (heap_below HGD4.out (Gr.trans' HC.out hw'))).2.2.2.2.2.2.1
          try have g7 := (cells8 (heap_below HGD4.out (Gr.trans' HC.out hw'))).2.2.2.2.2.2.2
          go_simp
          with_reducible rfl
        simp only [Act.put, List.setIfInBounds_toArray, List.set_cons_zero, List.set_cons_succ]
        refine wpG_three (i := 2) (j := 4) (k := 10) rfl rfl rfl (by kernel_rfl) (by rfl) (by rfl) (by rfl) ?_ ?_ ?_
        · go_simp
          refine (NM.out wc HC.out).mono ?_
          rintro e wn ⟨a2, n2, c2, us, rfl, hst, how, hb⟩
          refine ⟨hb.mono (Below.size HC.out), ?_⟩
          try (have HGP' := Lib.hid (heap_below HGP.out hb); clear HGP; have HGP := HGP'; clear HGP')
          try (have HOW' := Lib.hid (ownsRow_below HOW.out hb); clear HOW; have HOW := HOW'; clear HOW')
          try (have HK' := Lib.hid (heap_below HK.out hb); clear HK; have HK := HK'; clear HK')
          try (have HQ' := Lib.hid (HQ.out.below hb); clear HQ; have HQ := HQ'; clear HQ')
          have HC' : Hid (Gr w4 wn) := Below.trans HC.out (Below.mono hb (Below.size HC.out))
          clear HC
          have HC := HC'
          clear HC'
          have HOW := Lib.hid how
          have HSMALL : Hid ((∀ s ∈ us, s.size ≤ 1600) ∧ n2 ≤ 70) := ⟨hst.small, hst.few⟩
          clear hst how hb
          obtain ⟨wc, hwc⟩ : ∃ x, x = wn := ⟨_, rfl⟩
          subst hwc
          try simp only [Act.put, List.setIfInBounds_toArray, List.set_cons_zero, List.set_cons_succ]
          refine wpG_two (i := 4) (j := 10) rfl rfl (by kernel_rfl) (by rfl) (by rfl) ?_ ?_
          · go_simp
            have hb : Below wc.heap.size wc (wc.alloc (.cells #[.int .u8 99, .int .u8 111, .int .u8 111, .int .u8 107, .int .u8 105, .int .u8 101] 5)) := (Below.refl _ _).alloc (Nat.le_refl _) _
            refine ⟨hb.mono (Below.size HC.out), ?_⟩
            have hk : (wc.alloc (.cells #[.int .u8 99, .int .u8 111, .int .u8 111, .int .u8 107, .int .u8 105, .int .u8 101] 5)).heap[wc.heap.size]? = some (.cells #[.int .u8 99, .int .u8 111, .int .u8 111, .int .u8 107, .int .u8 105, .int .u8 101] 5 (0, 0)) := heap_alloc_last _ _
            have hgb : w4.heap.size ≤ wc.heap.size := Below.size HC.out
            generalize wc.alloc (.cells #[.int .u8 99, .int .u8 111, .int .u8 111, .int .u8 107, .int .u8 105, .int .u8 101] 5) = wn at hb hk ⊢
            try (have HGP' := Lib.hid (heap_below HGP.out hb); clear HGP; have HGP := HGP'; clear HGP')
            try (have HOW' := Lib.hid (ownsRow_below HOW.out hb); clear HOW; have HOW := HOW'; clear HOW')
            try (have HK' := Lib.hid (heap_below HK.out hb); clear HK; have HK := HK'; clear HK')
            try (have HQ' := Lib.hid (HQ.out.below hb); clear HQ; have HQ := HQ'; clear HQ')
            have HC' : Hid (Gr w4 wn) := Below.trans HC.out (Below.mono hb (Below.size HC.out))
            clear HC
            have HC := HC'
            clear HC'
            obtain ⟨gc, hgc⟩ : ∃ g, g = wc.heap.size := ⟨_, rfl⟩
            rw [← hgc] at hk hgb ⊢
            have HK := Lib.hid hk
            have HGB := Lib.hid hgb
            clear hgc hb hk hgb
            obtain ⟨wc, hwc⟩ : ∃ x, x = wn := ⟨_, rfl⟩
            subst hwc
            try simp only [Act.put, List.setIfInBounds_toArray, List.set_cons_zero, List.set_cons_succ]
            refine wpG_two (i := 5) (j := 10) rfl rfl (by kernel_rfl) (by rfl) (by rfl) ?_ ?_
            · obtain ⟨wn, hrun, ho, hk⟩ := run_mark (P := Try.prog) wc 22 5 gc #[.int .u8 99, .int .u8 111, .int .u8 111, .int .u8 107, .int .u8 105, .int .u8 101] 6 6 HK.out Try.underlying22 Try.underlying5
              go_simp
              refine ⟨ho.below _ _ HGB.out (Below.refl _ _), ?_⟩
              try (have HGP' := Lib.hid (only_heap ho HGP.out HK.out (by decide)); clear HGP; have HGP := HGP'; clear HGP')
              try (have HOW' := Lib.hid (only_own ho HOW.out HK.out (by decide)); clear HOW; have HOW := HOW'; clear HOW')
              have HC' : Hid (Gr w4 wn) := ho.below _ _ HGB.out HC.out
              clear HC HK
              have HC := HC'
              have HK := Lib.hid hk
              clear HC' hk ho hrun
              obtain ⟨wc, hwc⟩ : ∃ x, x = wn := ⟨_, rfl⟩
              subst hwc
              try simp only [Act.put, List.setIfInBounds_toArray, List.set_cons_zero, List.set_cons_succ]
              refine wpG_two (i := 6) (j := 10) rfl rfl (by kernel_rfl) (by rfl) (by rfl) ?_ ?_
              · go_simp
                have hbk : Bs wc (.slice (some ⟨gc, 0, none⟩) 6 6) cook := mark_bs cook 6 rfl (by decide) (by rw [← cook_cells]; exact HK.out)
                refine (offer_any y a2 n2 c2 us d (some ⟨gc, 0, none⟩) 6 6 cook wc ⟨own_rd HOW.out, HSMALL.out.1, HSMALL.out.2⟩ (HD4.out.below HC.out) HDS.out hbk (by decide) HY.out).mono ?_
                rintro e wn ⟨A1, L1, C1, rfl, hown, hb⟩
                refine ⟨hb.mono (Below.size HC.out), ?_⟩
                obtain ⟨r1, hr1⟩ : ∃ r, r = offerP y us d.plain cook := ⟨_, rfl⟩
                rw [← hr1] at hown ⊢
                have HR1 := Lib.hid hr1
                have hq := OwnB.mono hown (Below.size HC.out)
                try (have HGP' := Lib.hid (heap_below HGP.out hb); clear HGP; have HGP := HGP'; clear HGP')
                try (have HOW' := Lib.hid (ownsRow_below HOW.out hb); clear HOW; have HOW := HOW'; clear HOW')
                try (have HK' := Lib.hid (heap_below HK.out hb); clear HK; have HK := HK'; clear HK')
                try (have HQ' := Lib.hid (HQ.out.below hb); clear HQ; have HQ := HQ'; clear HQ')
                have HC' : Hid (Gr w4 wn) := Below.trans HC.out (Below.mono hb (Below.size HC.out))
                clear HC
                have HC := HC'
                clear HC'
                have HQ := Lib.hid hq
                clear hown hb hbk hr1 hq
                obtain ⟨wc, hwc⟩ : ∃ x, x = wn := ⟨_, rfl⟩
                subst hwc
                try simp only [Act.put, List.setIfInBounds_toArray, List.set_cons_zero, List.set_cons_succ]
                -- 7: slot 37
                refine wpG_take (preBelow (w4.heap.size)) (i := 7) (v := ?_) (by kernel_rfl) (some 37) (by kernel_rfl) rfl (by kernel_rfl) (by kernel_rfl) (by kernel_rfl) (fun _ _ _ h => h) (by rfl) (fun w' hw' => ?_) rfl ?_
                rotate_left
                · try have g0 := (cells8 (heap_below HGD4.out (Gr.trans' HC.out hw'))).1
                  try have g1 := (cells8 (heap_below HGD4.out (Gr.trans' HC.out hw'))).2.1
                  try have g2 := (cells8 (heap_below HGD4.out (Gr.trans' HC.out hw'))).2.2.1
                  try have g3 := (cells8 (heap_below HGD4.out (Gr.trans' HC.out hw'))).2.2.2.1
                  try have g4 := (cells8 (heap_below HGD4.out (Gr.trans' HC.out hw'))).2.2.2.2.1
                  try have g5 := (cells8 (heap_below HGD4.out (Gr.trans' HC.out hw'))).2.2.2.2.2.1
                  try have g6 := (cells8 (heap_below HGD4.out (Gr.trans' HC.out hw'))).2.2.2.2.2.2.1
                  try have g7 := (cells8 (heap_below HGD4.out (Gr.trans' HC.out hw'))).2.2.2.2.2.2.2
                  go_simp
                  with_reducible rfl
                simp only [Act.put, List.setIfInBounds_toArray, List.set_cons_zero, List.set_cons_succ]
                -- 8: slot 45
                refine wpG_take (preBelow (w4.heap.size)) (i := 8) (v := ?_) (by kernel_rfl) (some 45) (by kernel_rfl) rfl (by kernel_rfl) (by kernel_rfl) (by kernel_rfl) (fun _ _ _ h => h) (by rfl) (fun w' hw' => ?_) rfl ?_
                rotate_left
                · try have g0 := (cells8 (heap_below HGD4.out (Gr.trans' HC.out hw'))).1
                  try have g1 := (cells8 (heap_below HGD4.out (Gr.trans' HC.out hw'))).2.1
                  try have g2 := (cells8 (heap_below HGD4.out (Gr.trans' HC.out hw'))).2.2.1
                  try have g3 := (cells8 (heap_below HGD4.out (Gr.trans' HC.out hw'))).2.2.2.1
                  try have g4 := (cells8 (heap_below HGD4.out (Gr.trans' HC.out hw'))).2.2.2.2.1
                  try have g5 := (cells8 (heap_below HGD4.out (Gr.trans' HC.out hw'))).2.2.2.2.2.1
                  try have g6 := (cells8 (heap_below HGD4.out (Gr.trans' HC.out hw'))).2.2.2.2.2.2.1
                  try have g7 := (cells8 (heap_below HGD4.out (Gr.trans' HC.out hw'))).2.2.2.2.2.2.2
                  go_simp
                  with_reducible rfl
                simp only [Act.put, List.setIfInBounds_toArray, List.set_cons_zero, List.set_cons_succ]
                -- 9: slot 46
                refine wpG_take (preBelow (w4.heap.size)) (i := 9) (v := ?_) (by kernel_rfl) (some 46) (by kernel_rfl) rfl (by kernel_rfl) (by kernel_rfl) (by kernel_rfl) (fun _ _ _ h => h) (by rfl) (fun w' hw' => ?_) rfl ?_
                rotate_left
                · try have g0 := (cells8 (heap_below HGD4.out (Gr.trans' HC.out hw'))).1
                  try have g1 := (cells8 (heap_below HGD4.out (Gr.trans' HC.out hw'))).2.1
                  try have g2 := (cells8 (heap_below HGD4.out (Gr.trans' HC.out hw'))).2.2.1
                  try have g3 := (cells8 (heap_below HGD4.out (Gr.trans' HC.out hw'))).2.2.2.1
                  try have g4 := (cells8 (heap_below HGD4.out (Gr.trans' HC.out hw'))).2.2.2.2.1
                  try have g5 := (cells8 (heap_below HGD4.out (Gr.trans' HC.out hw'))).2.2.2.2.2.1
                  try have g6 := (cells8 (heap_below HGD4.out (Gr.trans' HC.out hw'))).2.2.2.2.2.2.1
                  try have g7 := (cells8 (heap_below HGD4.out (Gr.trans' HC.out hw'))).2.2.2.2.2.2.2
                  go_simp
                  with_reducible rfl
                simp only [Act.put, List.setIfInBounds_toArray, List.set_cons_zero, List.set_cons_succ]
                refine wpG_one (i := 10) rfl (by kernel_rfl) (by rfl) ?_
                go_simp
                have hb : Below wc.heap.size wc (wc.alloc (.cells #[.int .i64 0, .int .i64 0, .slice none 0 0] 24)) := (Below.refl _ _).alloc (Nat.le_refl _) _
                refine ⟨hb.mono (Below.size HC.out), ?_⟩
                have hk : (wc.alloc (.cells #[.int .i64 0, .int .i64 0, .slice none 0 0] 24)).heap[wc.heap.size]? = some (.cells #[.int .i64 0, .int .i64 0, .slice none 0 0] 24 (0, 0)) := heap_alloc_last _ _
                have hgb : w4.heap.size ≤ wc.heap.size := Below.size HC.out
                generalize wc.alloc (.cells #[.int .i64 0, .int .i64 0, .slice none 0 0] 24) = wn at hb hk ⊢
                try (have HGP' := Lib.hid (heap_below HGP.out hb); clear HGP; have HGP := HGP'; clear HGP')
                try (have HOW' := Lib.hid (ownsRow_below HOW.out hb); clear HOW; have HOW := HOW'; clear HOW')
                try (have HK' := Lib.hid (heap_below HK.out hb); clear HK; have HK := HK'; clear HK')
                try (have HQ' := Lib.hid (HQ.out.below hb); clear HQ; have HQ := HQ'; clear HQ')
                have HC' : Hid (Gr w4 wn) := Below.trans HC.out (Below.mono hb (Below.size HC.out))
                clear HC
                have HC := HC'
                clear HC'
                obtain ⟨gp, hgp⟩ : ∃ g, g = wc.heap.size := ⟨_, rfl⟩
                rw [← hgp] at hk hgb ⊢
                have HGP := Lib.hid hk
                have HGPB := Lib.hid hgb
                clear hgp hb hk hgb
                obtain ⟨wc, hwc⟩ : ∃ x, x = wn := ⟨_, rfl⟩
                subst hwc
                try simp only [Act.put, List.setIfInBounds_toArray, List.set_cons_zero, List.set_cons_succ]
                refine wpG_one (i := 11) rfl (by kernel_rfl) (by rfl) ?_
                refine wp_store_whole (none) 24 (.tmp 11) (.tmp 45) rfl gp [.int .i64 r1.1.c, .int .i64 r1.1.s, .slice A1 L1 C1] rfl rfl 24 [.int .i64 0, .int .i64 0, .slice none 0 0] HGP.out (by kernel_rfl) rfl ?o1 rfl ?_
                case o1 => intro u hu; simp only [List.mem_cons, List.not_mem_nil, or_false] at hu; rcases hu with rfl | rfl | rfl <;> rfl
                intro wn h5 ho
                refine ⟨ho.below _ _ HGPB.out (Below.refl _ _), ?_⟩
                have HPK : Hid (PkAt w4 wn (.pointer (some ⟨gp, 0, none⟩)) r1) := ⟨gp, A1, L1, C1, rfl, h5, OwnB.bs (only_own ho HQ.out HGP.out (by decide)), ho.below _ _ HGPB.out HC.out⟩
                clear h5 ho
                try simp only [Act.put, List.setIfInBounds_toArray, List.set_cons_zero, List.set_cons_succ]
                -- 12: slot 12
                refine wpG_take (preBelow (w4.heap.size)) (i := 12) (v := ?_) (by kernel_rfl) (some 12) (by kernel_rfl) rfl (by kernel_rfl) (by kernel_rfl) (by kernel_rfl) (fun _ _ _ h => h) (by rfl) (fun w' hw' => ?_) rfl ?_
                rotate_left
                · try have g0 := (cells8 (heap_below HGD4.out (Gr.trans' HC.out hw'))).1
                  try have g1 := (cells8 (heap_below HGD4.out (Gr.trans' HC.out hw'))).2.1
                  try have g2 := (cells8 (heap_below HGD4.out (Gr.trans' HC.out hw'))).2.2.1
                  try have g3 := (cells8 (heap_below HGD4.out (Gr.trans' HC.out hw'))).2.2.2.1
                  try have g4 := (cells8 (heap_below HGD4.out (Gr.trans' HC.out hw'))).2.2.2.2.1
                  try have g5 := (cells8 (heap_below HGD4.out (Gr.trans' HC.out hw'))).2.2.2.2.2.1
                  try have g6 := (cells8 (heap_below HGD4.out (Gr.trans' HC.out hw'))).2.2.2.2.2.2.1
                  try have g7 := (cells8 (heap_below HGD4.out (Gr.trans' HC.out hw'))).2.2.2.2.2.2.2
                  go_simp
                  with_reducible rfl
                simp only [Act.put, List.setIfInBounds_toArray, List.set_cons_zero, List.set_cons_succ]
                refine wpG_done (by kernel_rfl) ?_ _
                go_wp2_with fail
                go_meet
                exact ⟨us, by rw [← HR1.out], by rw [← HR1.out]; exact HPK⟩
              · go_simp
                have hb : Below wc.heap.size wc (wc.alloc (.cells #[.int .i64 0, .int .i64 0, .slice none 0 0] 24)) := (Below.refl _ _).alloc (Nat.le_refl _) _
                refine ⟨hb.mono (Below.size HC.out), ?_⟩
                have hk : (wc.alloc (.cells #[.int .i64 0, .int .i64 0, .slice none 0 0] 24)).heap[wc.heap.size]? = some (.cells #[.int .i64 0, .int .i64 0, .slice none 0 0] 24 (0, 0)) := heap_alloc_last _ _
                have hgb : w4.heap.size ≤ wc.heap.size := Below.size HC.out
                generalize wc.alloc (.cells #[.int .i64 0, .int .i64 0, .slice none 0 0] 24) = wn at hb hk ⊢
                try (have HGP' := Lib.hid (heap_below HGP.out hb); clear HGP; have HGP := HGP'; clear HGP')
                try (have HOW' := Lib.hid (ownsRow_below HOW.out hb); clear HOW; have HOW := HOW'; clear HOW')
                try (have HK' := Lib.hid (heap_below HK.out hb); clear HK; have HK := HK'; clear HK')
                try (have HQ' := Lib.hid (HQ.out.below hb); clear HQ; have HQ := HQ'; clear HQ')
                have HC' : Hid (Gr w4 wn) := Below.trans HC.out (Below.mono hb (Below.size HC.out))
                clear HC
                have HC := HC'
                clear HC'
                obtain ⟨gp, hgp⟩ : ∃ g, g = wc.heap.size := ⟨_, rfl⟩
                rw [← hgp] at hk hgb ⊢
                have HGP := Lib.hid hk
                have HGPB := Lib.hid hgb
                clear hgp hb hk hgb
                obtain ⟨wc, hwc⟩ : ∃ x, x = wn := ⟨_, rfl⟩
                subst hwc
                try simp only [Act.put, List.setIfInBounds_toArray, List.set_cons_zero, List.set_cons_succ]
                refine wpG_one (i := 6) rfl (by kernel_rfl) (by rfl) ?_
                go_simp
                have hbk : Bs wc (.slice (some ⟨gc, 0, none⟩) 6 6) cook := mark_bs cook 6 rfl (by decide) (by rw [← cook_cells]; exact HK.out)
                refine (offer_any y a2 n2 c2 us d (some ⟨gc, 0, none⟩) 6 6 cook wc ⟨own_rd HOW.out, HSMALL.out.1, HSMALL.out.2⟩ (HD4.out.below HC.out) HDS.out hbk (by decide) HY.out).mono ?_
                rintro e wn ⟨A1, L1, C1, rfl, hown, hb⟩
                refine ⟨hb.mono (Below.size HC.out), ?_⟩
                obtain ⟨r1, hr1⟩ : ∃ r, r = offerP y us d.plain cook := ⟨_, rfl⟩
                rw [← hr1] at hown ⊢
                have HR1 := Lib.hid hr1
                have hq := OwnB.mono hown (Below.size HC.out)
                try (have HGP' := Lib.hid (heap_below HGP.out hb); clear HGP; have HGP := HGP'; clear HGP')
                try (have HOW' := Lib.hid (ownsRow_below HOW.out hb); clear HOW; have HOW := HOW'; clear HOW')
                try (have HK' := Lib.hid (heap_below HK.out hb); clear HK; have HK := HK'; clear HK')
                try (have HQ' := Lib.hid (HQ.out.below hb); clear HQ; have HQ := HQ'; clear HQ')
                have HC' : Hid (Gr w4 wn) := Below.trans HC.out (Below.mono hb (Below.size HC.out))
                clear HC
                have HC := HC'
                clear HC'
                have HQ := Lib.hid hq
                clear hown hb hbk hr1 hq
                obtain ⟨wc, hwc⟩ : ∃ x, x = wn := ⟨_, rfl⟩
                subst hwc
                try simp only [Act.put, List.setIfInBounds_toArray, List.set_cons_zero, List.set_cons_succ]
                -- 7: slot 37
                refine wpG_take (preBelow (w4.heap.size)) (i := 7) (v := ?_) (by kernel_rfl) (some 37) (by kernel_rfl) rfl (by kernel_rfl) (by kernel_rfl) (by kernel_rfl) (fun _ _ _ h => h) (by rfl) (fun w' hw' => ?_) rfl ?_
                rotate_left
                · try have g0 := (cells8 (heap_below HGD4.out (Gr.trans' HC.out hw'))).1
                  try have g1 := (cells8 (heap_below HGD4.out (Gr.trans' HC.out hw'))).2.1
                  try have g2 := (cells8 (heap_below HGD4.out (Gr.trans' HC.out hw'))).2.2.1
                  try have g3 := (cells8 (heap_below HGD4.out (Gr.trans' HC.out hw'))).2.2.2.1
                  try have g4 := (cells8 (heap_below HGD4.out (Gr.trans' HC.out hw'))).2.2.2.2.1
                  try have g5 := (cells8 (heap_below HGD4.out (Gr.trans' HC.out hw'))).2.2.2.2.2.1
                  try have g6 := (cells8 (heap_below HGD4.out (Gr.trans' HC.out hw'))).2.2.2.2.2.2.1
                  try have g7 := (cells8 (heap_below HGD4.out (Gr.trans' HC.out hw'))).2.2.2.2.2.2.2
                  go_simp
                  with_reducible rfl
                simp only [Act.put, List.setIfInBounds_toArray, List.set_cons_zero, List.set_cons_succ]
                -- 8: slot 45
                refine wpG_take (preBelow (w4.heap.size)) (i := 8) (v := ?_) (by kernel_rfl) (some 45) (by kernel_rfl) rfl (by kernel_rfl) (by kernel_rfl) (by kernel_rfl) (fun _ _ _ h => h) (by rfl) (fun w' hw' => ?_) rfl ?_
                rotate_left
                · try have g0 := (cells8 (heap_below HGD4.out (Gr.trans' HC.out hw'))).1
                  try have g1 := (cells8 (heap_below HGD4.out (Gr.trans' HC.out hw'))).2.1
                  try have g2 := (cells8 (heap_below HGD4.out (Gr.trans' HC.out hw'))).2.2.1
                  try have g3 := (cells8 (heap_below HGD4.out (Gr.trans' HC.out hw'))).2.2.2.1
                  try have g4 := (cells8 (heap_below HGD4.out (Gr.trans' HC.out hw'))).2.2.2.2.1
                  try have g5 := (cells8 (heap_below HGD4.out (Gr.trans' HC.out hw'))).2.2.2.2.2.1
                  try have g6 := (cells8 (heap_below HGD4.out (Gr.trans' HC.out hw'))).2.2.2.2.2.2.1
                  try have g7 := (cells8 (heap_below HGD4.out (Gr.trans' HC.out hw'))).2.2.2.2.2.2.2
                  go_simp
                  with_reducible rfl
                simp only [Act.put, List.setIfInBounds_toArray, List.set_cons_zero, List.set_cons_succ]
                -- 9: slot 46
                refine wpG_take (preBelow (w4.heap.size)) (i := 9) (v := ?_) (by kernel_rfl) (some 46) (by kernel_rfl) rfl (by kernel_rfl) (by kernel_rfl) (by kernel_rfl) (fun _ _ _ h => h) (by rfl) (fun w' hw' => ?_) rfl ?_
                rotate_left
                · try have g0 := (cells8 (heap_below HGD4.out (Gr.trans' HC.out hw'))).1
                  try have g1 := (cells8 (heap_below HGD4.out (Gr.trans' HC.out hw'))).2.1
                  try have g2 := (cells8 (heap_below HGD4.out (Gr.trans' HC.out hw'))).2.2.1
                  try have g3 := (cells8 (heap_below HGD4.out (Gr.trans' HC.out hw'))).2.2.2.1
                  try have g4 := (cells8 (heap_below HGD4.out (Gr.trans' HC.out hw'))).2.2.2.2.1
                  try have g5 := (cells8 (heap_below HGD4.out (Gr.trans' HC.out hw'))).2.2.2.2.2.1
                  try have g6 := (cells8 (heap_below HGD4.out (Gr.trans' HC.out hw'))).2.2.2.2.2.2.1
                  try have g7 := (cells8 (heap_below HGD4.out (Gr.trans' HC.out hw'))).2.2.2.2.2.2.2
                  go_simp
                  with_reducible rfl
                simp only [Act.put, List.setIfInBounds_toArray, List.set_cons_zero, List.set_cons_succ]
                refine wpG_one (i := 11) rfl (by kernel_rfl) (by rfl) ?_
                refine wp_store_whole (none) 24 (.tmp 11) (.tmp 45) rfl gp [.int .i64 r1.1.c, .int .i64 r1.1.s, .slice A1 L1 C1] rfl rfl 24 [.int .i64 0, .int .i64 0, .slice none 0 0] HGP.out (by kernel_rfl) rfl ?o1 rfl ?_
                case o1 => intro u hu; simp only [List.mem_cons, List.not_mem_nil, or_false] at hu; rcases hu with rfl | rfl | rfl <;> rfl
                intro wn h5 ho
                refine ⟨ho.below _ _ HGPB.out (Below.refl _ _), ?_⟩
                have HPK : Hid (PkAt w4 wn (.pointer (some ⟨gp, 0, none⟩)) r1) := ⟨gp, A1, L1, C1, rfl, h5, OwnB.bs (only_own ho HQ.out HGP.out (by decide)), ho.below _ _ HGPB.out HC.out⟩
                clear h5 ho
                try simp only [Act.put, List.setIfInBounds_toArray, List.set_cons_zero, List.set_cons_succ]
                -- 12: slot 12
                refine wpG_take (preBelow (w4.heap.size)) (i := 12) (v := ?_) (by kernel_rfl) (some 12) (by kernel_rfl) rfl (by kernel_rfl) (by kernel_rfl) (by kernel_rfl) (fun _ _ _ h => h) (by rfl) (fun w' hw' => ?_) rfl ?_
                rotate_left
                · try have g0 := (cells8 (heap_below HGD4.out (Gr.trans' HC.out hw'))).1
                  try have g1 := (cells8 (heap_below HGD4.out (Gr.trans' HC.out hw'))).2.1
                  try have g2 := (cells8 (heap_below HGD4.out (Gr.trans' HC.out hw'))).2.2.1
                  try have g3 := (cells8 (heap_below HGD4.out (Gr.trans' HC.out hw'))).2.2.2.1
                  try have g4 := (cells8 (heap_below HGD4.out (Gr.trans' HC.out hw'))).2.2.2.2.1
                  try have g5 := (cells8 (heap_below HGD4.out (Gr.trans' HC.out hw'))).2.2.2.2.2.1
                  try have g6 := (cells8 (heap_below HGD4.out (Gr.trans' HC.out hw'))).2.2.2.2.2.2.1
                  try have g7 := (cells8 (heap_below HGD4.out (Gr.trans' HC.out hw'))).2.2.2.2.2.2.2
                  go_simp
                  with_reducible rfl
                simp only [Act.put, List.setIfInBounds_toArray, List.set_cons_zero, List.set_cons_succ]
                refine wpG_done (by kernel_rfl) ?_ _
                go_wp2_with fail
                go_meet
                exact ⟨us, by rw [← HR1.out], by rw [← HR1.out]; exact HPK⟩
            · go_simp
              have hb : Below wc.heap.size wc (wc.alloc (.cells #[.int .i64 0, .int .i64 0, .slice none 0 0] 24)) := (Below.refl _ _).alloc (Nat.le_refl _) _
              refine ⟨hb.mono (Below.size HC.out), ?_⟩
              have hk : (wc.alloc (.cells #[.int .i64 0, .int .i64 0, .slice none 0 0] 24)).heap[wc.heap.size]? = some (.cells #[.int .i64 0, .int .i64 0, .slice none 0 0] 24 (0, 0)) := heap_alloc_last _ _
              have hgb : w4.heap.size ≤ wc.heap.size := Below.size HC.out
              generalize wc.alloc (.cells #[.int .i64 0, .int .i64 0, .slice none 0 0] 24) = wn at hb hk ⊢
              try (have HGP' := Lib.hid (heap_below HGP.out hb); clear HGP; have HGP := HGP'; clear HGP')
              try (have HOW' := Lib.hid (ownsRow_below HOW.out hb); clear HOW; have HOW := HOW'; clear HOW')
              try (have HK' := Lib.hid (heap_below HK.out hb); clear HK; have HK := HK'; clear HK')
              try (have HQ' := Lib.hid (HQ.out.below hb); clear HQ; have HQ := HQ'; clear HQ')
              have HC' : Hid (Gr w4 wn) := Below.trans HC.out (Below.mono hb (Below.size HC.out))
              clear HC
              have HC := HC'
              clear HC'
              obtain ⟨gp, hgp⟩ : ∃ g, g = wc.heap.size := ⟨_, rfl⟩
              rw [← hgp] at hk hgb ⊢
              have HGP := Lib.hid hk
              have HGPB := Lib.hid hgb
              clear hgp hb hk hgb
              obtain ⟨wc, hwc⟩ : ∃ x, x = wn := ⟨_, rfl⟩
              subst hwc
              try simp only [Act.put, List.setIfInBounds_toArray, List.set_cons_zero, List.set_cons_succ]
              refine wpG_one (i := 5) rfl (by kernel_rfl) (by rfl) ?_
              obtain ⟨wn, hrun, ho, hk⟩ := run_mark (P := Try.prog) wc 22 5 gc #[.int .u8 99, .int .u8 111, .int .u8 111, .int .u8 107, .int .u8 105, .int .u8 101] 6 6 HK.out Try.underlying22 Try.underlying5
              go_simp
              refine ⟨ho.below _ _ HGB.out (Below.refl _ _), ?_⟩
              try (have HGP' := Lib.hid (only_heap ho HGP.out HK.out (by decide)); clear HGP; have HGP := HGP'; clear HGP')
              try (have HOW' := Lib.hid (only_own ho HOW.out HK.out (by decide)); clear HOW; have HOW := HOW'; clear HOW')
              have HC' : Hid (Gr w4 wn) := ho.below _ _ HGB.out HC.out
              clear HC HK
              have HC := HC'
              have HK := Lib.hid hk
              clear HC' hk ho hrun
              obtain ⟨wc, hwc⟩ : ∃ x, x = wn := ⟨_, rfl⟩
              subst hwc
              try simp only [Act.put, List.setIfInBounds_toArray, List.set_cons_zero, List.set_cons_succ]
              refine wpG_one (i := 6) rfl (by kernel_rfl) (by rfl) ?_
              go_simp
              have hbk : Bs wc (.slice (some ⟨gc, 0, none⟩) 6 6) cook := mark_bs cook 6 rfl (by decide) (by rw [← cook_cells]; exact HK.out)
              refine (offer_any y a2 n2 c2 us d (some ⟨gc, 0, none⟩) 6 6 cook wc ⟨own_rd HOW.out, HSMALL.out.1, HSMALL.out.2⟩ (HD4.out.below HC.out) HDS.out hbk (by decide) HY.out).mono ?_
              rintro e wn ⟨A1, L1, C1, rfl, hown, hb⟩
              refine ⟨hb.mono (Below.size HC.out), ?_⟩
              obtain ⟨r1, hr1⟩ : ∃ r, r = offerP y us d.plain cook := ⟨_, rfl⟩
              rw [← hr1] at hown ⊢
              have HR1 := Lib.hid hr1
              have hq := OwnB.mono hown (Below.size HC.out)
              try (have HGP' := Lib.hid (heap_below HGP.out hb); clear HGP; have HGP := HGP'; clear HGP')
              try (have HOW' := Lib.hid (ownsRow_below HOW.out hb); clear HOW; have HOW := HOW'; clear HOW')
              try (have HK' := Lib.hid (heap_below HK.out hb); clear HK; have HK := HK'; clear HK')
              try (have HQ' := Lib.hid (HQ.out.below hb); clear HQ; have HQ := HQ'; clear HQ')
              have HC' : Hid (Gr w4 wn) := Below.trans HC.out (Below.mono hb (Below.size HC.out))
              clear HC
              have HC := HC'
              clear HC'
              have HQ := Lib.hid hq
              clear hown hb hbk hr1 hq
              obtain ⟨wc, hwc⟩ : ∃ x, x = wn := ⟨_, rfl⟩
              subst hwc
              try simp only [Act.put, List.setIfInBounds_toArray, List.set_cons_zero, List.set_cons_succ]
              -- 7: slot 37
              refine wpG_take (preBelow (w4.heap.size)) (i := 7) (v := ?_) (by kernel_rfl) (some 37) (by kernel_rfl) rfl (by kernel_rfl) (by kernel_rfl) (by kernel_rfl) (fun _ _ _ h => h) (by rfl) (fun w' hw' => ?_) rfl ?_
              rotate_left
              · try have g0 := (cells8 (heap_below HGD4.out (Gr.trans' HC.out hw'))).1
                try have g1 := (cells8 (heap_below HGD4.out (Gr.trans' HC.out hw'))).2.1
                try have g2 := (cells8 (heap_below HGD4.out (Gr.trans' HC.out hw'))).2.2.1
                try have g3 := (cells8 (heap_below HGD4.out (Gr.trans' HC.out hw'))).2.2.2.1
                try have g4 := (cells8 (heap_below HGD4.out (Gr.trans' HC.out hw'))).2.2.2.2.1
                try have g5 := (cells8 (heap_below HGD4.out (Gr.trans' HC.out hw'))).2.2.2.2.2.1
                try have g6 := (cells8 (heap_below HGD4.out (Gr.trans' HC.out hw'))).2.2.2.2.2.2.1
                try have g7 := (cells8 (heap_below HGD4.out (Gr.trans' HC.out hw'))).2.2.2.2.2.2.2
                go_simp
                with_reducible rfl
              simp only [Act.put, List.setIfInBounds_toArray, List.set_cons_zero, List.set_cons_succ]
              -- 8: slot 45
              refine wpG_take (preBelow (w4.heap.size)) (i := 8) (v := ?_) (by kernel_rfl) (some 45) (by kernel_rfl) rfl (by kernel_rfl) (by kernel_rfl) (by kernel_rfl) (fun _ _ _ h => h) (by rfl) (fun w' hw' => ?_) rfl ?_
              rotate_left
              · try have g0 := (cells8 (heap_below HGD4.out (Gr.trans' HC.out hw'))).1
                try have g1 := (cells8 (heap_below HGD4.out (Gr.trans' HC.out hw'))).2.1
                try have g2 := (cells8 (heap_below HGD4.out (Gr.trans' HC.out hw'))).2.2.1
                try have g3 := (cells8 (heap_below HGD4.out (Gr.trans' HC.out hw'))).2.2.2.1
                try have g4 := (cells8 (heap_below HGD4.out (Gr.trans' HC.out hw'))).2.2.2.2.1
                try have g5 := (cells8 (heap_below HGD4.out (Gr.trans' HC.out hw'))).2.2.2.2.2.1
                try have g6 := (cells8 (heap_below HGD4.out (Gr.trans' HC.out hw'))).2.2.2.2.2.2.1
                try have g7 := (cells8 (heap_below HGD4.out (Gr.trans' HC.out hw'))).2.2.2.2.2.2.2
                go_simp
                with_reducible rfl
              simp only [Act.put, List.setIfInBounds_toArray, List.set_cons_zero, List.set_cons_succ]
              -- 9: slot 46
              refine wpG_take (preBelow (w4.heap.size)) (i := 9) (v := ?_) (by kernel_rfl) (some 46) (by kernel_rfl) rfl (by kernel_rfl) (by kernel_rfl) (by kernel_rfl) (fun _ _ _ h => h) (by rfl) (fun w' hw' => ?_) rfl ?_
              rotate_left
              · try have g0 := (cells8 (heap_below HGD4.out (Gr.trans' HC.out hw'))).1
                try have g1 := (cells8 (heap_below HGD4.out (Gr.trans' HC.out hw'))).2.1
                try have g2 := (cells8 (heap_below HGD4.out (Gr.trans' HC.out hw'))).2.2.1
                try have g3 := (cells8 (heap_below HGD4.out (Gr.trans' HC.out hw'))).2.2.2.1
                try have g4 := (cells8 (heap_below HGD4.out (Gr.trans' HC.out hw'))).2.2.2.2.1
                try have g5 := (cells8 (heap_below HGD4.out (Gr.trans' HC.out hw'))).2.2.2.2.2.1
                try have g6 := (cells8 (heap_below HGD4.out (Gr.trans' HC.out hw'))).2.2.2.2.2.2.1
                try have g7 := (cells8 (heap_below HGD4.out (Gr.trans' HC.out hw'))).2.2.2.2.2.2.2
                go_simp
                with_reducible rfl
              simp only [Act.put, List.setIfInBounds_toArray, List.set_cons_zero, List.set_cons_succ]
              refine wpG_one (i := 11) rfl (by kernel_rfl) (by rfl) ?_
              refine wp_store_whole (none) 24 (.tmp 11) (.tmp 45) rfl gp [.int .i64 r1.1.c, .int .i64 r1.1.s, .slice A1 L1 C1] rfl rfl 24 [.int .i64 0, .int .i64 0, .slice none 0 0] HGP.out (by kernel_rfl) rfl ?o1 rfl ?_
              case o1 => intro u hu; simp only [List.mem_cons, List.not_mem_nil, or_false] at hu; rcases hu with rfl | rfl | rfl <;> rfl
              intro wn h5 ho
              refine ⟨ho.below _ _ HGPB.out (Below.refl _ _), ?_⟩
              have HPK : Hid (PkAt w4 wn (.pointer (some ⟨gp, 0, none⟩)) r1) := ⟨gp, A1, L1, C1, rfl, h5, OwnB.bs (only_own ho HQ.out HGP.out (by decide)), ho.below _ _ HGPB.out HC.out⟩
              clear h5 ho
              try simp only [Act.put, List.setIfInBounds_toArray, List.set_cons_zero, List.set_cons_succ]
              -- 12: slot 12
              refine wpG_take (preBelow (w4.heap.size)) (i := 12) (v := ?_) (by kernel_rfl) (some 12) (by kernel_rfl) rfl (by kernel_rfl) (by kernel_rfl) (by kernel_rfl) (fun _ _ _ h => h) (by rfl) (fun w' hw' => ?_) rfl ?_
              rotate_left
              · try have g0 := (cells8 (heap_below HGD4.out (Gr.trans' HC.out hw'))).1
                try have g1 := (cells8 (heap_below HGD4.out (Gr.trans' HC.out hw'))).2.1
                try have g2 := (cells8 (heap_below HGD4.out (Gr.trans' HC.out hw'))).2.2.1
                try have g3 := (cells8 (heap_below HGD4.out (Gr.trans' HC.out hw'))).2.2.2.1
                try have g4 := (cells8 (heap_below HGD4.out (Gr.trans' HC.out hw'))).2.2.2.2.1
                try have g5 := (cells8 (heap_below HGD4.out (Gr.trans' HC.out hw'))).2.2.2.2.2.1
                try have g6 := (cells8 (heap_below HGD4.out (Gr.trans' HC.out hw'))).2.2.2.2.2.2.1
                try have g7 := (cells8 (heap_below HGD4.out (Gr.trans' HC.out hw'))).2.2.2.2.2.2.2
                go_simp
                with_reducible rfl
              simp only [Act.put, List.setIfInBounds_toArray, List.set_cons_zero, List.set_cons_succ]
              refine wpG_done (by kernel_rfl) ?_ _
              go_wp2_with fail
              go_meet
              exact ⟨us, by rw [← HR1.out], by rw [← HR1.out]; exact HPK⟩
          · go_simp
            have hb : Below wc.heap.size wc (wc.alloc (.cells #[.int .i64 0, .int .i64 0, .slice none 0 0] 24)) := (Below.refl _ _).alloc (Nat.le_refl _) _
            refine ⟨hb.mono (Below.size HC.out), ?_⟩
            have hk : (wc.alloc (.cells #[.int .i64 0, .int .i64 0, .slice none 0 0] 24)).heap[wc.heap.size]? = some (.cells #[.int .i64 0, .int .i64 0, .slice none 0 0] 24 (0, 0)) := heap_alloc_last _ _
            have hgb : w4.heap.size ≤ wc.heap.size := Below.size HC.out
            generalize wc.alloc (.cells #[.int .i64 0, .int .i64 0, .slice none 0 0] 24) = wn at hb hk ⊢
            try (have HGP' := Lib.hid (heap_below HGP.out hb); clear HGP; have HGP := HGP'; clear HGP')
            try (have HOW' := Lib.hid (ownsRow_below HOW.out hb); clear HOW; have HOW := HOW'; clear HOW')
            try (have HK' := Lib.hid (heap_below HK.out hb); clear HK; have HK := HK'; clear HK')
            try (have HQ' := Lib.hid (HQ.out.below hb); clear HQ; have HQ := HQ'; clear HQ')
            have HC' : Hid (Gr w4 wn) := Below.trans HC.out (Below.mono hb (Below.size HC.out))
            clear HC
            have HC := HC'
            clear HC'
            obtain ⟨gp, hgp⟩ : ∃ g, g = wc.heap.size := ⟨_, rfl⟩
            rw [← hgp] at hk hgb ⊢
            have HGP := Lib.hid hk
            have HGPB := Lib.hid hgb
            clear hgp hb hk hgb
            obtain ⟨wc, hwc⟩ : ∃ x, x = wn := ⟨_, rfl⟩
            subst hwc
            try simp only [Act.put, List.setIfInBounds_toArray, List.set_cons_zero, List.set_cons_succ]
            refine wpG_one (i := 4) rfl (by kernel_rfl) (by rfl) ?_
            go_simp
            have hb : Below wc.heap.size wc (wc.alloc (.cells #[.int .u8 99, .int .u8 111, .int .u8 111, .int .u8 107, .int .u8 105, .int .u8 101] 5)) := (Below.refl _ _).alloc (Nat.le_refl _) _
            refine ⟨hb.mono (Below.size HC.out), ?_⟩
            have hk : (wc.alloc (.cells #[.int .u8 99, .int .u8 111, .int .u8 111, .int .u8 107, .int .u8 105, .int .u8 101] 5)).heap[wc.heap.size]? = some (.cells #[.int .u8 99, .int .u8 111, .int .u8 111, .int .u8 107, .int .u8 105, .int .u8 101] 5 (0, 0)) := heap_alloc_last _ _
            have hgb : w4.heap.size ≤ wc.heap.size := Below.size HC.out
            generalize wc.alloc (.cells #[.int .u8 99, .int .u8 111, .int .u8 111, .int .u8 107, .int .u8 105, .int .u8 101] 5) = wn at hb hk ⊢
            try (have HGP' := Lib.hid (heap_below HGP.out hb); clear HGP; have HGP := HGP'; clear HGP')
            try (have HOW' := Lib.hid (ownsRow_below HOW.out hb); clear HOW; have HOW := HOW'; clear HOW')
            try (have HK' := Lib.hid (heap_below HK.out hb); clear HK; have HK := HK'; clear HK')
            try (have HQ' := Lib.hid (HQ.out.below hb); clear HQ; have HQ := HQ'; clear HQ')
            have HC' : Hid (Gr w4 wn) := Below.trans HC.out (Below.mono hb (Below.size HC.out))
            clear HC
            have HC := HC'
            clear HC'
            obtain ⟨gc, hgc⟩ : ∃ g, g = wc.heap.size := ⟨_, rfl⟩
            rw [← hgc] at hk hgb ⊢
            have HK := Lib.hid hk
            have HGB := Lib.hid hgb
            clear hgc hb hk hgb
            obtain ⟨wc, hwc⟩ : ∃ x, x = wn := ⟨_, rfl⟩
            subst hwc
            try simp only [Act.put, List.setIfInBounds_toArray, List.set_cons_zero, List.set_cons_succ]
            refine wpG_one (i := 5) rfl (by kernel_rfl) (by rfl) ?_
            obtain ⟨wn, hrun, ho, hk⟩ := run_mark (P := Try.prog) wc 22 5 gc #[.int .u8 99, .int .u8 111, .int .u8 111, .int .u8 107, .int .u8 105, .int .u8 101] 6 6 HK.out Try.underlying22 Try.underlying5
            go_simp
            refine ⟨ho.below _ _ HGB.out (Below.refl _ _), ?_⟩
            try (have HGP' := Lib.hid (only_heap ho HGP.out HK.out (by decide)); clear HGP; have HGP := HGP'; clear HGP')
            try (have HOW' := Lib.hid (only_own ho HOW.out HK.out (by decide)); clear HOW; have HOW := HOW'; clear HOW')
            have HC' : Hid (Gr w4 wn) := ho.below _ _ HGB.out HC.out
            clear HC HK
            have HC := HC'
            have HK := Lib.hid hk
            clear HC' hk ho hrun
            obtain ⟨wc, hwc⟩ : ∃ x, x = wn := ⟨_, rfl⟩
            subst hwc
            try simp only [Act.put, List.setIfInBounds_toArray, List.set_cons_zero, List.set_cons_succ]
            refine wpG_one (i := 6) rfl (by kernel_rfl) (by rfl) ?_
            go_simp
            have hbk : Bs wc (.slice (some ⟨gc, 0, none⟩) 6 6) cook := mark_bs cook 6 rfl (by decide) (by rw [← cook_cells]; exact HK.out)
            refine (offer_any y a2 n2 c2 us d (some ⟨gc, 0, none⟩) 6 6 cook wc ⟨own_rd HOW.out, HSMALL.out.1, HSMALL.out.2⟩ (HD4.out.below HC.out) HDS.out hbk (by decide) HY.out).mono ?_
            rintro e wn ⟨A1, L1, C1, rfl, hown, hb⟩
            refine ⟨hb.mono (Below.size HC.out), ?_⟩
            obtain ⟨r1, hr1⟩ : ∃ r, r = offerP y us d.plain cook := ⟨_, rfl⟩
            rw [← hr1] at hown ⊢
            have HR1 := Lib.hid hr1
            have hq := OwnB.mono hown (Below.size HC.out)
            try (have HGP' := Lib.hid (heap_below HGP.out hb); clear HGP; have HGP := HGP'; clear HGP')
            try (have HOW' := Lib.hid (ownsRow_below HOW.out hb); clear HOW; have HOW := HOW'; clear HOW')
            try (have HK' := Lib.hid (heap_below HK.out hb); clear HK; have HK := HK'; clear HK')
            try (have HQ' := Lib.hid (HQ.out.below hb); clear HQ; have HQ := HQ'; clear HQ')
            have HC' : Hid (Gr w4 wn) := Below.trans HC.out (Below.mono hb (Below.size HC.out))
            clear HC
            have HC := HC'
            clear HC'
            have HQ := Lib.hid hq
            clear hown hb hbk hr1 hq
            obtain ⟨wc, hwc⟩ : ∃ x, x = wn := ⟨_, rfl⟩
            subst hwc
            try simp only [Act.put, List.setIfInBounds_toArray, List.set_cons_zero, List.set_cons_succ]
            -- 7: slot 37
            refine wpG_take (preBelow (w4.heap.size)) (i := 7) (v := ?_) (by kernel_rfl) (some 37) (by kernel_rfl) rfl (by kernel_rfl) (by kernel_rfl) (by kernel_rfl) (fun _ _ _ h => h) (by rfl) (fun w' hw' => ?_) rfl ?_
            rotate_left
            · try have g0 := (cells8 (heap_below HGD4.out (Gr.trans' HC.out hw'))).1
              try have g1 := (cells8 (heap_below HGD4.out (Gr.trans' HC.out hw'))).2.1
              try have g2 := (cells8 (heap_below HGD4.out (Gr.trans' HC.out hw'))).2.2.1
              try have g3 := (cells8 (heap_below HGD4.out (Gr.trans' HC.out hw'))).2.2.2.1
              try have g4 := (cells8 (heap_below HGD4.out (Gr.trans' HC.out hw'))).2.2.2.2.1
              try have g5 := (cells8 (heap_below HGD4.out (Gr.trans' HC.out hw'))).2.2.2.2.2.1
              try have g6 := (cells8 (heap_below HGD4.out (Gr.trans' HC.out hw'))).2.2.2.2.2.2.1
              try have g7 := (cells8 (heap_below HGD4.out (Gr.trans' HC.out hw'))).2.2.2.2.2.2.2
              go_simp
              with_reducible rfl
            simp only [Act.put, List.setIfInBounds_toArray, List.set_cons_zero, List.set_cons_succ]
            -- 8: slot 45
            refine wpG_take (preBelow (w4.heap.size)) (i := 8) (v := ?_) (by kernel_rfl) (some 45) (by kernel_rfl) rfl (by kernel_rfl) (by kernel_rfl) (by kernel_rfl) (fun _ _ _ h => h) (by rfl) (fun w' hw' => ?_) rfl ?_
            rotate_left
            · try have g0 := (cells8 (heap_below HGD4.out (Gr.trans' HC.out hw'))).1
              try have g1 := (cells8 (heap_below HGD4.out (Gr.trans' HC.out hw'))).2.1
              try have g2 := (cells8 (heap_below HGD4.out (Gr.trans' HC.out hw'))).2.2.1
              try have g3 := (cells8 (heap_below HGD4.out (Gr.trans' HC.out hw'))).2.2.2.1
              try have g4 := (cells8 (heap_below HGD4.out (Gr.trans' HC.out hw'))).2.2.2.2.1
              try have g5 := (cells8 (heap_below HGD4.out (Gr.trans' HC.out hw'))).2.2.2.2.2.1
              try have g6 := (cells8 (heap_below HGD4.out (Gr.trans' HC.out hw'))).2.2.2.2.2.2.1
              try have g7 := (cells8 (heap_below HGD4.out (Gr.trans' HC.out hw'))).2.2.2.2.2.2.2
              go_simp
              with_reducible rfl
            simp only [Act.put, List.setIfInBounds_toArray, List.set_cons_zero, List.set_cons_succ]
            -- 9: slot 46
            refine wpG_take (preBelow (w4.heap.size)) (i := 9) (v := ?_) (by kernel_rfl) (some 46) (by kernel_rfl) rfl (by kernel_rfl) (by kernel_rfl) (by kernel_rfl) (fun _ _ _ h => h) (by rfl) (fun w' hw' => ?_) rfl ?_
            rotate_left
            · try have g0 := (cells8 (heap_below HGD4.out (Gr.trans' HC.out hw'))).1
              try have g1 := (cells8 (heap_below HGD4.out (Gr.trans' HC.out hw'))).2.1
              try have g2 := (cells8 (heap_below HGD4.out (Gr.trans' HC.out hw'))).2.2.1
              try have g3 := (cells8 (heap_below HGD4.out (Gr.trans' HC.out hw'))).2.2.2.1
              try have g4 := (cells8 (heap_below HGD4.out (Gr.trans' HC.out hw'))).2.2.2.2.1
              try have g5 := (cells8 (heap_below HGD4.out (Gr.trans' HC.out hw'))).2.2.2.2.2.1
              try have g6 := (cells8 (heap_below HGD4.out (Gr.trans' HC.out hw'))).2.2.2.2.2.2.1
              try have g7 := (cells8 (heap_below HGD4.out (Gr.trans' HC.out hw'))).2.2.2.2.2.2.2
              go_simp
              with_reducible rfl
            simp only [Act.put, List.setIfInBounds_toArray, List.set_cons_zero, List.set_cons_succ]
            refine wpG_one (i := 11) rfl (by kernel_rfl) (by rfl) ?_
            refine wp_store_whole (none) 24 (.tmp 11) (.tmp 45) rfl gp [.int .i64 r1.1.c, .int .i64 r1.1.s, .slice A1 L1 C1] rfl rfl 24 [.int .i64 0, .int .i64 0, .slice none 0 0] HGP.out (by kernel_rfl) rfl ?o1 rfl ?_
            case o1 => intro u hu; simp only [List.mem_cons, List.not_mem_nil, or_false] at hu; rcases hu with rfl | rfl | rfl <;> rfl
            intro wn h5 ho
            refine ⟨ho.below _ _ HGPB.out (Below.refl _ _), ?_⟩
            have HPK : Hid (PkAt w4 wn (.pointer (some ⟨gp, 0, none⟩)) r1) := ⟨gp, A1, L1, C1, rfl, h5, OwnB.bs (only_own ho HQ.out HGP.out (by decide)), ho.below _ _ HGPB.out HC.out⟩
            clear h5 ho
            try simp only [Act.put, List.setIfInBounds_toArray, List.set_cons_zero, List.set_cons_succ]
            -- 12: slot 12
            refine wpG_take (preBelow (w4.heap.size)) (i := 12) (v := ?_) (by kernel_rfl) (some 12) (by kernel_rfl) rfl (by kernel_rfl) (by kernel_rfl) (by kernel_rfl) (fun _ _ _ h => h) (by rfl) (fun w' hw' => ?_) rfl ?_
            rotate_left
            · try have g0 := (cells8 (heap_below HGD4.out (Gr.trans' HC.out hw'))).1
              try have g1 := (cells8 (heap_below HGD4.out (Gr.trans' HC.out hw'))).2.1
              try have g2 := (cells8 (heap_below HGD4.out (Gr.trans' HC.out hw'))).2.2.1
              try have g3 := (cells8 (heap_below HGD4.out (Gr.trans' HC.out hw'))).2.2.2.1
              try have g4 := (cells8 (heap_below HGD4.out (Gr.trans' HC.out hw'))).2.2.2.2.1
              try have g5 := (cells8 (heap_below HGD4.out (Gr.trans' HC.out hw'))).2.2.2.2.2.1
              try have g6 := (cells8 (heap_below HGD4.out (Gr.trans' HC.out hw'))).2.2.2.2.2.2.1
              try have g7 := (cells8 (heap_below HGD4.out (Gr.trans' HC.out hw'))).2.2.2.2.2.2.2
              go_simp
              with_reducible rfl
            simp only [Act.put, List.setIfInBounds_toArray, List.set_cons_zero, List.set_cons_succ]
            refine wpG_done (by kernel_rfl) ?_ _
            go_wp2_with fail
            go_meet
            exact ⟨us, by rw [← HR1.out], by rw [← HR1.out]; exact HPK⟩
        · go_simp
          have hb : Below wc.heap.size wc (wc.alloc (.cells #[.int .u8 99, .int .u8 111, .int .u8 111, .int .u8 107, .int .u8 105, .int .u8 101] 5)) := (Below.refl _ _).alloc (Nat.le_refl _) _
          refine ⟨hb.mono (Below.size HC.out), ?_⟩
          have hk : (wc.alloc (.cells #[.int .u8 99, .int .u8 111, .int .u8 111, .int .u8 107, .int .u8 105, .int .u8 101] 5)).heap[wc.heap.size]? = some (.cells #[.int .u8 99, .int .u8 111, .int .u8 111, .int .u8 107, .int .u8 105, .int .u8 101] 5 (0, 0)) := heap_alloc_last _ _
          have hgb : w4.heap.size ≤ wc.heap.size := Below.size HC.out
          generalize wc.alloc (.cells #[.int .u8 99, .int .u8 111, .int .u8 111, .int .u8 107, .int .u8 105, .int .u8 101] 5) = wn at hb hk ⊢
          try (have HGP' := Lib.hid (heap_below HGP.out hb); clear HGP; have HGP := HGP'; clear HGP')
          try (have HOW' := Lib.hid (ownsRow_below HOW.out hb); clear HOW; have HOW := HOW'; clear HOW')
          try (have HK' := Lib.hid (heap_below HK.out hb); clear HK; have HK := HK'; clear HK')
          try (have HQ' := Lib.hid (HQ.out.below hb); clear HQ; have HQ := HQ'; clear HQ')
          have HC' : Hid (Gr w4 wn) := Below.trans HC.out (Below.mono hb (Below.size HC.out))
          clear HC
          have HC := HC'
          clear HC'
          obtain ⟨gc, hgc⟩ : ∃ g, g = wc.heap.size := ⟨_, rfl⟩
          rw [← hgc] at hk hgb ⊢
          have HK := Lib.hid hk
          have HGB := Lib.hid hgb
          clear hgc hb hk hgb
          obtain ⟨wc, hwc⟩ : ∃ x, x = wn := ⟨_, rfl⟩
          subst hwc
          try simp only [Act.put, List.setIfInBounds_toArray, List.set_cons_zero, List.set_cons_succ]
          refine wpG_three (i := 2) (j := 5) (k := 10) rfl rfl rfl (by kernel_rfl) (by rfl) (by rfl) (by rfl) ?_ ?_ ?_
          · go_simp
            refine (NM.out wc HC.out).mono ?_
            rintro e wn ⟨a2, n2, c2, us, rfl, hst, how, hb⟩
            refine ⟨hb.mono (Below.size HC.out), ?_⟩
            try (have HGP' := Lib.hid (heap_below HGP.out hb); clear HGP; have HGP := HGP'; clear HGP')
            try (have HOW' := Lib.hid (ownsRow_below HOW.out hb); clear HOW; have HOW := HOW'; clear HOW')
            try (have HK' := Lib.hid (heap_below HK.out hb); clear HK; have HK := HK'; clear HK')
            try (have HQ' := Lib.hid (HQ.out.below hb); clear HQ; have HQ := HQ'; clear HQ')
            have HC' : Hid (Gr w4 wn) := Below.trans HC.out (Below.mono hb (Below.size HC.out))
            clear HC
            have HC := HC'
            clear HC'
            have HOW := Lib.hid how
            have HSMALL : Hid ((∀ s ∈ us, s.size ≤ 1600) ∧ n2 ≤ 70) := ⟨hst.small, hst.few⟩
            clear hst how hb
            obtain ⟨wc, hwc⟩ : ∃ x, x = wn := ⟨_, rfl⟩
            subst hwc
            try simp only [Act.put, List.setIfInBounds_toArray, List.set_cons_zero, List.set_cons_succ]
            refine wpG_two (i := 5) (j := 10) rfl rfl (by kernel_rfl) (by rfl) (by rfl) ?_ ?_
            · obtain ⟨wn, hrun, ho, hk⟩ := run_mark (P := Try.prog) wc 22 5 gc #[.int .u8 99, .int .u8 111, .int .u8 111, .int .u8 107, .int .u8 105, .int .u8 101] 6 6 HK.out Try.underlying22 Try.underlying5
              go_simp
              refine ⟨ho.below _ _ HGB.out (Below.refl _ _), ?_⟩
              try (have HGP' := Lib.hid (only_heap ho HGP.out HK.out (by decide)); clear HGP; have HGP := HGP'; clear HGP')
              try (have HOW' := Lib.hid (only_own ho HOW.out HK.out (by decide)); clear HOW; have HOW := HOW'; clear HOW')
              have HC' : Hid (Gr w4 wn) := ho.below _ _ HGB.out HC.out
              clear HC HK
              have HC := HC'
              have HK := Lib.hid hk
              clear HC' hk ho hrun
              obtain ⟨wc, hwc⟩ : ∃ x, x = wn := ⟨_, rfl⟩
              subst hwc
              try simp only [Act.put, List.setIfInBounds_toArray, List.set_cons_zero, List.set_cons_succ]
              refine wpG_two (i := 6) (j := 10) rfl rfl (by kernel_rfl) (by rfl) (by rfl) ?_ ?_
              · go_simp
                have hbk : Bs wc (.slice (some ⟨gc, 0, none⟩) 6 6) cook := mark_bs cook 6 rfl (by decide) (by rw [← cook_cells]; exact HK.out)
                refine (offer_any y a2 n2 c2 us d (some ⟨gc, 0, none⟩) 6 6 cook wc ⟨own_rd HOW.out, HSMALL.out.1, HSMALL.out.2⟩ (HD4.out.below HC.out) HDS.out hbk (by decide) HY.out).mono ?_
                rintro e wn ⟨A1, L1, C1, rfl, hown, hb⟩
                refine ⟨hb.mono (Below.size HC.out), ?_⟩
                obtain ⟨r1, hr1⟩ : ∃ r, r = offerP y us d.plain cook := ⟨_, rfl⟩
                rw [← hr1] at hown ⊢
                have HR1 := Lib.hid hr1
                have hq := OwnB.mono hown (Below.size HC.out)
                try (have HGP' := Lib.hid (heap_below HGP.out hb); clear HGP; have HGP := HGP'; clear HGP')
                try (have HOW' := Lib.hid (ownsRow_below HOW.out hb); clear HOW; have HOW := HOW'; clear HOW')
                try (have HK' := Lib.hid (heap_below HK.out hb); clear HK; have HK := HK'; clear HK')
                try (have HQ' := Lib.hid (HQ.out.below hb); clear HQ; have HQ := HQ'; clear HQ')
                have HC' : Hid (Gr w4 wn) := Below.trans HC.out (Below.mono hb (Below.size HC.out))
                clear HC
                have HC := HC'
                clear HC'
                have HQ := Lib.hid hq
                clear hown hb hbk hr1 hq
                obtain ⟨wc, hwc⟩ : ∃ x, x = wn := ⟨_, rfl⟩
                subst hwc
                try simp only [Act.put, List.setIfInBounds_toArray, List.set_cons_zero, List.set_cons_succ]
                -- 7: slot 37
                refine wpG_take (preBelow (w4.heap.size)) (i := 7) (v := ?_) (by kernel_rfl) (some 37) (by kernel_rfl) rfl (by kernel_rfl) (by kernel_rfl) (by kernel_rfl) (fun _ _ _ h => h) (by rfl) (fun w' hw' => ?_) rfl ?_
                rotate_left
                · try have g0 := (cells8 (heap_below HGD4.out (Gr.trans' HC.out hw'))).1
                  try have g1 := (cells8 (heap_below HGD4.out (Gr.trans' HC.out hw'))).2.1
                  try have g2 := (cells8 (heap_below HGD4.out (Gr.trans' HC.out hw'))).2.2.1
                  try have g3 := (cells8 (heap_below HGD4.out (Gr.trans' HC.out hw'))).2.2.2.1
                  try have g4 := (cells8 (heap_below HGD4.out (Gr.trans' HC.out hw'))).2.2.2.2.1
                  try have g5 := (cells8 (heap_below HGD4.out (Gr.trans' HC.out hw'))).2.2.2.2.2.1
                  try have g6 := (cells8 (heap_below HGD4.out (Gr.trans' HC.out hw'))).2.2.2.2.2.2.1
                  try have g7 := (cells8 (heap_below HGD4.out (Gr.trans' HC.out hw'))).2.2.2.2.2.2.2
                  go_simp
                  with_reducible rfl
                simp only [Act.put, List.setIfInBounds_toArray, List.set_cons_zero, List.set_cons_succ]
                -- 8: slot 45
                refine wpG_take (preBelow (w4.heap.size)) (i := 8) (v := ?_) (by kernel_rfl) (some 45) (by kernel_rfl) rfl (by kernel_rfl) (by kernel_rfl) (by kernel_rfl) (fun _ _ _ h => h) (by rfl) (fun w' hw' => ?_) rfl ?_
                rotate_left
                · try have g0 := (cells8 (heap_below HGD4.out (Gr.trans' HC.out hw'))).1
                  try have g1 := (cells8 (heap_below HGD4.out (Gr.trans' HC.out hw'))).2.1
                  try have g2 := (cells8 (heap_below HGD4.out (Gr.trans' HC.out hw'))).2.2.1
                  try have g3 := (cells8 (heap_below HGD4.out (Gr.trans' HC.out hw'))).2.2.2.1
                  try have g4 := (cells8 (heap_below HGD4.out (Gr.trans' HC.out hw'))).2.2.2.2.1
                  try have g5 := (cells8 (heap_below HGD4.out (Gr.trans' HC.out hw'))).2.2.2.2.2.1
                  try have g6 := (cells8 (heap_below HGD4.out (Gr.trans' HC.out hw'))).2.2.2.2.2.2.1
                  try have g7 := (cells8 (heap_below HGD4.out (Gr.trans' HC.out hw'))).2.2.2.2.2.2.2
                  go_simp
                  with_reducible rfl
                simp only [Act.put, List.setIfInBounds_toArray, List.set_cons_zero, List.set_cons_succ]
                -- 9: slot 46
                refine wpG_take (preBelow (w4.heap.size)) (i := 9) (v := ?_) (by kernel_rfl) (some 46) (by kernel_rfl) rfl (by kernel_rfl) (by kernel_rfl) (by kernel_rfl) (fun _ _ _ h => h) (by rfl) (fun w' hw' => ?_) rfl ?_
                rotate_left
                · try have g0 := (cells8 (heap_below HGD4.out (Gr.trans' HC.out hw'))).1
                  try have g1 := (cells8 (heap_below HGD4.out (Gr.trans' HC.out hw'))).2.1
                  try have g2 := (cells8 (heap_below HGD4.out (Gr.trans' HC.out hw'))).2.2.1
                  try have g3 := (cells8 (heap_below HGD4.out (Gr.trans' HC.out hw'))).2.2.2.1
                  try have g4 := (cells8 (heap_below HGD4.out (Gr.trans' HC.out hw'))).2.2.2.2.1
                  try have g5 := (cells8 (heap_below HGD4.out (Gr.trans' HC.out hw'))).2.2.2.2.2.1
                  try have g6 := (cells8 (heap_below HGD4.out (Gr.trans' HC.out hw'))).2.2.2.2.2.2.1
                  try have g7 := (cells8 (heap_below HGD4.out (Gr.trans' HC.out hw'))).2.2.2.2.2.2.2
                  go_simp
                  with_reducible rfl
                simp only [Act.put, List.setIfInBounds_toArray, List.set_cons_zero, List.set_cons_succ]
                refine wpG_one (i := 10) rfl (by kernel_rfl) (by rfl) ?_
                go_simp
                have hb : Below wc.heap.size wc (wc.alloc (.cells #[.int .i64 0, .int .i64 0, .slice none 0 0] 24)) := (Below.refl _ _).alloc (Nat.le_refl _) _
                refine ⟨hb.mono (Below.size HC.out), ?_⟩
                have hk : (wc.alloc (.cells #[.int .i64 0, .int .i64 0, .slice none 0 0] 24)).heap[wc.heap.size]? = some (.cells #[.int .i64 0, .int .i64 0, .slice none 0 0] 24 (0, 0)) := heap_alloc_last _ _
                have hgb : w4.heap.size ≤ wc.heap.size := Below.size HC.out
                generalize wc.alloc (.cells #[.int .i64 0, .int .i64 0, .slice none 0 0] 24) = wn at hb hk ⊢
                try (have HGP' := Lib.hid (heap_below HGP.out hb); clear HGP; have HGP := HGP'; clear HGP')
                try (have HOW' := Lib.hid (ownsRow_below HOW.out hb); clear HOW; have HOW := HOW'; clear HOW')
                try (have HK' := Lib.hid (heap_below HK.out hb); clear HK; have HK := HK'; clear HK')
                try (have HQ' := Lib.hid (HQ.out.below hb); clear HQ; have HQ := HQ'; clear HQ')
                have HC' : Hid (Gr w4 wn) := Below.trans HC.out (Below.mono hb (Below.size HC.out))
                clear HC
                have HC := HC'
                clear HC'
                obtain ⟨gp, hgp⟩ : ∃ g, g = wc.heap.size := ⟨_, rfl⟩
                rw [← hgp] at hk hgb ⊢
                have HGP := Lib.hid hk
                have HGPB := Lib.hid hgb
                clear hgp hb hk hgb
                obtain ⟨wc, hwc⟩ : ∃ x, x = wn := ⟨_, rfl⟩
                subst hwc
                try simp only [Act.put, List.setIfInBounds_toArray, List.set_cons_zero, List.set_cons_succ]
                refine wpG_one (i := 11) rfl (by kernel_rfl) (by rfl) ?_
                refine wp_store_whole (none) 24 (.tmp 11) (.tmp 45) rfl gp [.int .i64 r1.1.c, .int .i64 r1.1.s, .slice A1 L1 C1] rfl rfl 24 [.int .i64 0, .int .i64 0, .slice none 0 0] HGP.out (by kernel_rfl) rfl ?o1 rfl ?_
                case o1 => intro u hu; simp only [List.mem_cons, List.not_mem_nil, or_false] at hu; rcases hu with rfl | rfl | rfl <;> rfl
                intro wn h5 ho
                refine ⟨ho.below _ _ HGPB.out (Below.refl _ _), ?_⟩
                have HPK : Hid (PkAt w4 wn (.pointer (some ⟨gp, 0, none⟩)) r1) := ⟨gp, A1, L1, C1, rfl, h5, OwnB.bs (only_own ho HQ.out HGP.out (by decide)), ho.below _ _ HGPB.out HC.out⟩
                clear h5 ho
                try simp only [Act.put, List.setIfInBounds_toArray, List.set_cons_zero, List.set_cons_succ]
                -- 12: slot 12
                refine wpG_take (preBelow (w4.heap.size)) (i := 12) (v := ?_) (by kernel_rfl) (some 12) (by kernel_rfl) rfl (by kernel_rfl) (by kernel_rfl) (by kernel_rfl) (fun _ _ _ h => h) (by rfl) (fun w' hw' => ?_) rfl ?_
                rotate_left
                · try have g0 := (cells8 (heap_below HGD4.out (Gr.trans' HC.out hw'))).1
                  try have g1 := (cells8 (heap_below HGD4.out (Gr.trans' HC.out hw'))).2.1
                  try have g2 := (cells8 (heap_below HGD4.out (Gr.trans' HC.out hw'))).2.2.1
                  try have g3 := (cells8 (heap_below HGD4.out (Gr.trans' HC.out hw'))).2.2.2.1
                  try have g4 := (cells8 (heap_below HGD4.out (Gr.trans' HC.out hw'))).2.2.2.2.1
                  try have g5 := (cells8 (heap_below HGD4.out (Gr.trans' HC.out hw'))).2.2.2.2.2.1
                  try have g6 := (cells8 (heap_below HGD4.out (Gr.trans' HC.out hw'))).2.2.2.2.2.2.1
                  try have g7 := (cells8 (heap_below HGD4.out (Gr.trans' HC.out hw'))).2.2.2.2.2.2.2
                  go_simp
                  with_reducible rfl
                simp only [Act.put, List.setIfInBounds_toArray, List.set_cons_zero, List.set_cons_succ]
                refine wpG_done (by kernel_rfl) ?_ _
                go_wp2_with fail
                go_meet
                exact ⟨us, by rw [← HR1.out], by rw [← HR1.out]; exact HPK⟩
              · go_simp
                have hb : Below wc.heap.size wc (wc.alloc (.cells #[.int .i64 0, .int .i64 0, .slice none 0 0] 24)) := (Below.refl _ _).alloc (Nat.le_refl _) _
                refine ⟨hb.mono (Below.size HC.out), ?_⟩
                have hk : (wc.alloc (.cells #[.int .i64 0, .int .i64 0, .slice none 0 0] 24)).heap[wc.heap.size]? = some (.cells #[.int .i64 0, .int .i64 0, .slice none 0 0] 24 (0, 0)) := heap_alloc_last _ _
                have hgb : w4.heap.size ≤ wc.heap.size := Below.size HC.out
                generalize wc.alloc (.cells #[.int .i64 0, .int .i64 0, .slice none 0 0] 24) = wn at hb hk ⊢
                try (have HGP' := Lib.hid (heap_below HGP.out hb); clear HGP; have HGP := HGP'; clear HGP')
                try (have HOW' := Lib.hid (ownsRow_below HOW.out hb); clear HOW; have HOW := HOW'; clear HOW')
                try (have HK' := Lib.hid (heap_below HK.out hb); clear HK; have HK := HK'; clear HK')
                try (have HQ' := Lib.hid (HQ.out.below hb); clear HQ; have HQ := HQ'; clear HQ')
                have HC' : Hid (Gr w4 wn) := Below.trans HC.out (Below.mono hb (Below.size HC.out))
                clear HC
                have HC := HC'
                clear HC'
                obtain ⟨gp, hgp⟩ : ∃ g, g = wc.heap.size := ⟨_, rfl⟩
                rw [← hgp] at hk hgb ⊢
                have HGP := Lib.hid hk
                have HGPB := Lib.hid hgb
                clear hgp hb hk hgb
                obtain ⟨wc, hwc⟩ : ∃ x, x = wn := ⟨_, rfl⟩
                subst hwc
                try simp only [Act.put, List.setIfInBounds_toArray, List.set_cons_zero, List.set_cons_succ]
                refine wpG_one (i := 6) rfl (by kernel_rfl) (by rfl) ?_
                go_simp
                have hbk : Bs wc (.slice (some ⟨gc, 0, none⟩) 6 6) cook := mark_bs cook 6 rfl (by decide) (by rw [← cook_cells]; exact HK.out)
                refine (offer_any y a2 n2 c2 us d (some ⟨gc, 0, none⟩) 6 6 cook wc ⟨own_rd HOW.out, HSMALL.out.1, HSMALL.out.2⟩ (HD4.out.below HC.out) HDS.out hbk (by decide) HY.out).mono ?_
                rintro e wn ⟨A1, L1, C1, rfl, hown, hb⟩
                refine ⟨hb.mono (Below.size HC.out), ?_⟩
                obtain ⟨r1, hr1⟩ : ∃ r, r = offerP y us d.plain cook := ⟨_, rfl⟩
                rw [← hr1] at hown ⊢
                have HR1 := Lib.hid hr1
                have hq := OwnB.mono hown (Below.size HC.out)
                try (have HGP' := Lib.hid (heap_below HGP.out hb); clear HGP; have HGP := HGP'; clear HGP')
                try (have HOW' := Lib.hid (ownsRow_below HOW.out hb); clear HOW; have HOW := HOW'; clear HOW')
                try (have HK' := Lib.hid (heap_below HK.out hb); clear HK; have HK := HK'; clear HK')
                try (have HQ' := Lib.hid (HQ.out.below hb); clear HQ; have HQ := HQ'; clear HQ')
                have HC' : Hid (Gr w4 wn) := Below.trans HC.out (Below.mono hb (Below.size HC.out))
                clear HC
                have HC := HC'
                clear HC'
                have HQ := Lib.hid hq
                clear hown hb hbk hr1 hq
                obtain ⟨wc, hwc⟩ : ∃ x, x = wn := ⟨_, rfl⟩
                subst hwc
                try simp only [Act.put, List.setIfInBounds_toArray, List.set_cons_zero, List.set_cons_succ]
                -- 7: slot 37
                refine wpG_take (preBelow (w4.heap.size)) (i := 7) (v := ?_) (by kernel_rfl) (some 37) (by kernel_rfl) rfl (by kernel_rfl) (by kernel_rfl) (by kernel_rfl) (fun _ _ _ h => h) (by rfl) (fun w' hw' => ?_) rfl ?_
                rotate_left
                · try have g0 := (cells8 (heap_below HGD4.out (Gr.trans' HC.out hw'))).1
                  try have g1 := (cells8 (heap_below HGD4.out (Gr.trans' HC.out hw'))).2.1
                  try have g2 := (cells8 (heap_below HGD4.out (Gr.trans' HC.out hw'))).2.2.1
                  try have g3 := (cells8 (heap_below HGD4.out (Gr.trans' HC.out hw'))).2.2.2.1
                  try have g4 := (cells8 (heap_below HGD4.out (Gr.trans' HC.out hw'))).2.2.2.2.1
                  try have g5 := (cells8 (heap_below HGD4.out (Gr.trans' HC.out hw'))).2.2.2.2.2.1
                  try have g6 := (cells8 (heap_below HGD4.out (Gr.trans' HC.out hw'))).2.2.2.2.2.2.1
                  try have g7 := (cells8 (heap_below HGD4.out (Gr.trans' HC.out hw'))).2.2.2.2.2.2.2
                  go_simp
                  with_reducible rfl
                simp only [Act.put, List.setIfInBounds_toArray, List.set_cons_zero, List.set_cons_succ]
                -- 8: slot 45
                refine wpG_take (preBelow (w4.heap.size)) (i := 8) (v := ?_) (by kernel_rfl) (some 45) (by kernel_rfl) rfl (by kernel_rfl) (by kernel_rfl) (by kernel_rfl) (fun _ _ _ h => h) (by rfl) (fun w' hw' => ?_) rfl ?_
                rotate_left
                · try have g0 := (cells8 (heap_below HGD4.out (Gr.trans' HC.out hw'))).1
                  try have g1 := (cells8 (heap_below HGD4.out (Gr.trans' HC.out hw'))).2.1
                  try have g2 := (cells8 (heap_below HGD4.out (Gr.trans' HC.out hw'))).2.2.1
                  try have g3 := (cells8 (heap_below HGD4.out (Gr.trans' HC.out hw'))).2.2.2.1
                  try have g4 := (cells8 (heap_below HGD4.out (Gr.trans' HC.out hw'))).2.2.2.2.1
                  try have g5 := (cells8 (heap_below HGD4.out (Gr.trans' HC.out hw'))).2.2.2.2.2.1
                  try have g6 := (cells8 (heap_below HGD4.out (Gr.trans' HC.out hw'))).2.2.2.2.2.2.1
                  try have g7 := (cells8 (heap_below HGD4.out (Gr.trans' HC.out hw'))).2.2.2.2.2.2.2
                  go_simp
                  with_reducible rfl
                simp only [Act.put, List.setIfInBounds_toArray, List.set_cons_zero, List.set_cons_succ]
                -- 9: slot 46
                refine wpG_take (preBelow (w4.heap.size)) (i := 9) (v := ?_) (by kernel_rfl) (some 46) (by kernel_rfl) rfl (by kernel_rfl) (by kernel_rfl) (by kernel_rfl) (fun _ _ _ h => h) (by rfl) (fun w' hw' => ?_) rfl ?_
                rotate_left
                · try have g0 := (cells8 (heap_below HGD4.out (Gr.trans' HC.out hw'))).1
                  try have g1 := (cells8 (heap_below HGD4.out (Gr.trans' HC.out hw'))).2.1
                  try have g2 := (cells8 (heap_below HGD4.out (Gr.trans' HC.out hw'))).2.2.1
                  try have g3 := (cells8 (heap_below HGD4.out (Gr.trans' HC.out hw'))).2.2.2.1
                  try have g4 := (cells8 (heap_below HGD4.out (Gr.trans' HC.out hw'))).2.2.2.2.1
                  try have g5 := (cells8 (heap_below HGD4.out (Gr.trans' HC.out hw'))).2.2.2.2.2.1
                  try have g6 := (cells8 (heap_below HGD4.out (Gr.trans' HC.out hw'))).2.2.2.2.2.2.1
                  try have g7 := (cells8 (heap_below HGD4.out (Gr.trans' HC.out hw'))).2.2.2.2.2.2.2
                  go_simp
                  with_reducible rfl
                simp only [Act.put, List.setIfInBounds_toArray, List.set_cons_zero, List.set_cons_succ]
                refine wpG_one (i := 11) rfl (by kernel_rfl) (by rfl) ?_
                refine wp_store_whole (none) 24 (.tmp 11) (.tmp 45) rfl gp [.int .i64 r1.1.c, .int .i64 r1.1.s, .slice A1 L1 C1] rfl rfl 24 [.int .i64 0, .int .i64 0, .slice none 0 0] HGP.out (by kernel_rfl) rfl ?o1 rfl ?_
                case o1 => intro u hu; simp only [List.mem_cons, List.not_mem_nil, or_false] at hu; rcases hu with rfl | rfl | rfl <;> rfl
                intro wn h5 ho
                refine ⟨ho.below _ _ HGPB.out (Below.refl _ _), ?_⟩
                have HPK : Hid (PkAt w4 wn (.pointer (some ⟨gp, 0, none⟩)) r1) := ⟨gp, A1, L1, C1, rfl, h5, OwnB.bs (only_own ho HQ.out HGP.out (by decide)), ho.below _ _ HGPB.out HC.out⟩
                clear h5 ho
                try simp only [Act.put, List.setIfInBounds_toArray, List.set_cons_zero, List.set_cons_succ]
                -- 12: slot 12
                refine wpG_take (preBelow (w4.heap.size)) (i := 12) (v := ?_) (by kernel_rfl) (some 12) (by kernel_rfl) rfl (by kernel_rfl) (by kernel_rfl) (by kernel_rfl) (fun _ _ _ h => h) (by rfl) (fun w' hw' => ?_) rfl ?_
                rotate_left
                · try have g0 := (cells8 (heap_below HGD4.out (Gr.trans' HC.out hw'))).1
                  try have g1 := (cells8 (heap_below HGD4.out (Gr.trans' HC.out hw'))).2.1
                  try have g2 := (cells8 (heap_below HGD4.out (Gr.trans' HC.out hw'))).2.2.1
                  try have g3 := (cells8 (heap_below HGD4.out (Gr.trans' HC.out hw'))).2.2.2.1
                  try have g4 := (cells8 (heap_below HGD4.out (Gr.trans' HC.out hw'))).2.2.2.2.1
                  try have g5 := (cells8 (heap_below HGD4.out (Gr.trans' HC.out hw'))).2.2.2.2.2.1
                  try have g6 := (cells8 (heap_below HGD4.out (Gr.trans' HC.out hw'))).2.2.2.2.2.2.1
                  try have g7 := (cells8 (heap_below HGD4.out (Gr.trans' HC.out hw'))).2.2.2.2.2.2.2
                  go_simp
                  with_reducible rfl
                simp only [Act.put, List.setIfInBounds_toArray, List.set_cons_zero, List.set_cons_succ]
                refine wpG_done (by kernel_rfl) ?_ _
                go_wp2_with fail
                go_meet
                exact ⟨us, by rw [← HR1.out], by rw [← HR1.out]; exact HPK⟩
            · go_simp
              have hb : Below wc.heap.size wc (wc.alloc (.cells #[.int .i64 0, .int .i64 0, .slice none 0 0] 24)) := (Below.refl _ _).alloc (Nat.le_refl _) _
              refine ⟨hb.mono (Below.size HC.out), ?_⟩
              have hk : (wc.alloc (.cells #[.int .i64 0, .int .i64 0, .slice none 0 0] 24)).heap[wc.heap.size]? = some (.cells #[.int .i64 0, .int .i64 0, .slice none 0 0] 24 (0, 0)) := heap_alloc_last _ _
              have hgb : w4.heap.size ≤ wc.heap.size := Below.size HC.out
              generalize wc.alloc (.cells #[.int .i64 0, .int .i64 0, .slice none 0 0] 24) = wn at hb hk ⊢
              try (have HGP' := Lib.hid (heap_below HGP.out hb); clear HGP; have HGP := HGP'; clear HGP')
              try (have HOW' := Lib.hid (ownsRow_below HOW.out hb); clear HOW; have HOW := HOW'; clear HOW')
              try (have HK' := Lib.hid (heap_below HK.out hb); clear HK; have HK := HK'; clear HK')
              try (have HQ' := Lib.hid (HQ.out.below hb); clear HQ; have HQ := HQ'; clear HQ')
              have HC' : Hid (Gr w4 wn) := Below.trans HC.out (Below.mono hb (Below.size HC.out))
              clear HC
              have HC := HC'
              clear HC'
              obtain ⟨gp, hgp⟩ : ∃ g, g = wc.heap.size := ⟨_, rfl⟩
              rw [← hgp] at hk hgb ⊢
              have HGP := Lib.hid hk
              have HGPB := Lib.hid hgb
              clear hgp hb hk hgb
              obtain ⟨wc, hwc⟩ : ∃ x, x = wn := ⟨_, rfl⟩
              subst hwc
              try simp only [Act.put, List.setIfInBounds_toArray, List.set_cons_zero, List.set_cons_succ]
              refine wpG_one (i := 5) rfl (by kernel_rfl) (by rfl) ?_
              obtain ⟨wn, hrun, ho, hk⟩ := run_mark (P := Try.prog) wc 22 5 gc #[.int .u8 99, .int .u8 111, .int .u8 111, .int .u8 107, .int .u8 105, .int .u8 101] 6 6 HK.out Try.underlying22 Try.underlying5
              go_simp
              refine ⟨ho.below _ _ HGB.out (Below.refl _ _), ?_⟩
              try (have HGP' := Lib.hid (only_heap ho HGP.out HK.out (by decide)); clear HGP; have HGP := HGP'; clear HGP')
              try (have HOW' := Lib.hid (only_own ho HOW.out HK.out (by decide)); clear HOW; have HOW := HOW'; clear HOW')
              have HC' : Hid (Gr w4 wn) := ho.below _ _ HGB.out HC.out
              clear HC HK
              have HC := HC'
              have HK := Lib.hid hk
              clear HC' hk ho hrun
              obtain ⟨wc, hwc⟩ : ∃ x, x = wn := ⟨_, rfl⟩
              subst hwc
              try simp only [Act.put, List.setIfInBounds_toArray, List.set_cons_zero, List.set_cons_succ]
              refine wpG_one (i := 6) rfl (by kernel_rfl) (by rfl) ?_
              go_simp
              have hbk : Bs wc (.slice (some ⟨gc, 0, none⟩) 6 6) cook := mark_bs cook 6 rfl (by decide) (by rw [← cook_cells]; exact HK.out)
              refine (offer_any y a2 n2 c2 us d (some ⟨gc, 0, none⟩) 6 6 cook wc ⟨own_rd HOW.out, HSMALL.out.1, HSMALL.out.2⟩ (HD4.out.below HC.out) HDS.out hbk (by decide) HY.out).mono ?_
              rintro e wn ⟨A1, L1, C1, rfl, hown, hb⟩
              refine ⟨hb.mono (Below.size HC.out), ?_⟩
              obtain ⟨r1, hr1⟩ : ∃ r, r = offerP y us d.plain cook := ⟨_, rfl⟩
              rw [← hr1] at hown ⊢
              have HR1 := Lib.hid hr1
              have hq := OwnB.mono hown (Below.size HC.out)
              try (have HGP' := Lib.hid (heap_below HGP.out hb); clear HGP; have HGP := HGP'; clear HGP')
              try (have HOW' := Lib.hid (ownsRow_below HOW.out hb); clear HOW; have HOW := HOW'; clear HOW')
              try (have HK' := Lib.hid (heap_below HK.out hb); clear HK; have HK := HK'; clear HK')
              try (have HQ' := Lib.hid (HQ.out.below hb); clear HQ; have HQ := HQ'; clear HQ')
              have HC' : Hid (Gr w4 wn) := Below.trans HC.out (Below.mono hb (Below.size HC.out))
              clear HC
              have HC := HC'
              clear HC'
              have HQ := Lib.hid hq
              clear hown hb hbk hr1 hq
              obtain ⟨wc, hwc⟩ : ∃ x, x = wn := ⟨_, rfl⟩
              subst hwc
              try simp only [Act.put, List.setIfInBounds_toArray, List.set_cons_zero, List.set_cons_succ]
              -- 7: slot 37
              refine wpG_take (preBelow (w4.heap.size)) (i := 7) (v := ?_) (by kernel_rfl) (some 37) (by kernel_rfl) rfl (by kernel_rfl) (by kernel_rfl) (by kernel_rfl) (fun _ _ _ h => h) (by rfl) (fun w' hw' => ?_) rfl ?_
              rotate_left
              · try have g0 := (cells8 (heap_below HGD4.out (Gr.trans' HC.out hw'))).1
                try have g1 := (cells8 (heap_below HGD4.out (Gr.trans' HC.out hw'))).2.1
                try have g2 := (cells8 (heap_below HGD4.out (Gr.trans' HC.out hw'))).2.2.1
                try have g3 := (cells8 (heap_below HGD4.out (Gr.trans' HC.out hw'))).2.2.2.1
                try have g4 := (cells8 (heap_below HGD4.out (Gr.trans' HC.out hw'))).2.2.2.2.1
                try have g5 := (cells8 (heap_below HGD4.out (Gr.trans' HC.out hw'))).2.2.2.2.2.1
                try have g6 := (cells8 (heap_below HGD4.out (Gr.trans' HC.out hw'))).2.2.2.2.2.2.1
                try have g7 := (cells8 (heap_below HGD4.out (Gr.trans' HC.out hw'))).2.2.2.2.2.2.2
                go_simp
                with_reducible rfl
              simp only [Act.put, List.setIfInBounds_toArray, List.set_cons_zero, List.set_cons_succ]
              -- 8: slot 45
              refine wpG_take (preBelow (w4.heap.size)) (i := 8) (v := ?_) (by kernel_rfl) (some 45) (by kernel_rfl) rfl (by kernel_rfl) (by kernel_rfl) (by kernel_rfl) (fun _ _ _ h => h) (by rfl) (fun w' hw' => ?_) rfl ?_
              rotate_left
              · try have g0 := (cells8 (heap_below HGD4.out (Gr.trans' HC.out hw'))).1
                try have g1 := (cells8 (heap_below HGD4.out (Gr.trans' HC.out hw'))).2.1
                try have g2 := (cells8 (heap_below HGD4.out (Gr.trans' HC.out hw'))).2.2.1
                try have g3 := (cells8 (heap_below HGD4.out (Gr.trans' HC.out hw'))).2.2.2.1
                try have g4 := (cells8 (heap_below HGD4.out (Gr.trans' HC.out hw'))).2.2.2.2.1
                try have g5 := (cells8 (heap_below HGD4.out (Gr.trans' HC.out hw'))).2.2.2.2.2.1
                try have g6 := (cells8 (heap_below HGD4.out (Gr.trans' HC.out hw'))).2.2.2.2.2.2.1
                try have g7 := (cells8 (heap_below HGD4.out (Gr.trans' HC.out hw'))).2.2.2.2.2.2.2
                go_simp
                with_reducible rfl
              simp only [Act.put, List.setIfInBounds_toArray, List.set_cons_zero, List.set_cons_succ]
              -- 9: slot 46
              refine wpG_take (preBelow (w4.heap.size)) (i := 9) (v := ?_) (by kernel_rfl) (some 46) (by kernel_rfl) rfl (by kernel_rfl) (by kernel_rfl) (by kernel_rfl) (fun _ _ _ h => h) (by rfl) (fun w' hw' => ?_) rfl ?_
              rotate_left
              · try have g0 := (cells8 (heap_below HGD4.out (Gr.trans' HC.out hw'))).1
                try have g1 := (cells8 (heap_below HGD4.out (Gr.trans' HC.out hw'))).2.1
                try have g2 := (cells8 (heap_below HGD4.out (Gr.trans' HC.out hw'))).2.2.1
                try have g3 := (cells8 (heap_below HGD4.out (Gr.trans' HC.out hw'))).2.2.2.1
                try have g4 := (cells8 (heap_below HGD4.out (Gr.trans' HC.out hw'))).2.2.2.2.1
                try have g5 := (cells8 (heap_below HGD4.out (Gr.trans' HC.out hw'))).2.2.2.2.2.1
                try have g6 := (cells8 (heap_below HGD4.out (Gr.trans' HC.out hw'))).2.2.2.2.2.2.1
                try have g7 := (cells8 (heap_below HGD4.out (Gr.trans' HC.out hw'))).2.2.2.2.2.2.2
                go_simp
                with_reducible rfl
              simp only [Act.put, List.setIfInBounds_toArray, List.set_cons_zero, List.set_cons_succ]
              refine wpG_one (i := 11) rfl (by kernel_rfl) (by rfl) ?_
              refine wp_store_whole (none) 24 (.tmp 11) (.tmp 45) rfl gp [.int .i64 r1.1.c, .int .i64 r1.1.s, .slice A1 L1 C1] rfl rfl 24 [.int .i64 0, .int .i64 0, .slice none 0 0] HGP.out (by kernel_rfl) rfl ?o1 rfl ?_
              case o1 => intro u hu; simp only [List.mem_cons, List.not_mem_nil, or_false] at hu; rcases hu with rfl | rfl | rfl <;> rfl
              intro wn h5 ho
              refine ⟨ho.below _ _ HGPB.out (Below.refl _ _), ?_⟩
              have HPK : Hid (PkAt w4 wn (.pointer (some ⟨gp, 0, none⟩)) r1) := ⟨gp, A1, L1, C1, rfl, h5, OwnB.bs (only_own ho HQ.out HGP.out (by decide)), ho.below _ _ HGPB.out HC.out⟩
              clear h5 ho
              try simp only [Act.put, List.setIfInBounds_toArray, List.set_cons_zero, List.set_cons_succ]
              -- 12: slot 12
              refine wpG_take (preBelow (w4.heap.size)) (i := 12) (v := ?_) (by kernel_rfl) (some 12) (by kernel_rfl) rfl (by kernel_rfl) (by kernel_rfl) (by kernel_rfl) (fun _ _ _ h => h) (by rfl) (fun w' hw' => ?_) rfl ?_
              rotate_left
              · try have g0 := (cells8 (heap_below HGD4.out (Gr.trans' HC.out hw'))).1
                try have g1 := (cells8 (heap_below HGD4.out (Gr.trans' HC.out hw'))).2.1
                try have g2 := (cells8 (heap_below HGD4.out (Gr.trans' HC.out hw'))).2.2.1
                try have g3 := (cells8 (heap_below HGD4.out (Gr.trans' HC.out hw'))).2.2.2.1
                try have g4 := (cells8 (heap_below HGD4.out (Gr.trans' HC.out hw'))).2.2.2.2.1
                try have g5 := (cells8 (heap_below HGD4.out (Gr.trans' HC.out hw'))).2.2.2.2.2.1
                try have g6 := (cells8 (heap_below HGD4.out (Gr.trans' HC.out hw'))).2.2.2.2.2.2.1
                try have g7 := (cells8 (heap_below HGD4.out (Gr.trans' HC.out hw'))).2.2.2.2.2.2.2
                go_simp
                with_reducible rfl
              simp only [Act.put, List.setIfInBounds_toArray, List.set_cons_zero, List.set_cons_succ]
              refine wpG_done (by kernel_rfl) ?_ _
              go_wp2_with fail
              go_meet
              exact ⟨us, by rw [← HR1.out], by rw [← HR1.out]; exact HPK⟩
          · obtain ⟨wn, hrun, ho, hk⟩ := run_mark (P := Try.prog) wc 22 5 gc #[.int .u8 99, .int .u8 111, .int .u8 111, .int .u8 107, .int .u8 105, .int .u8 101] 6 6 HK.out Try.underlying22 Try.underlying5
            go_simp
            refine ⟨ho.below _ _ HGB.out (Below.refl _ _), ?_⟩
            try (have HGP' := Lib.hid (only_heap ho HGP.out HK.out (by decide)); clear HGP; have HGP := HGP'; clear HGP')
            try (have HOW' := Lib.hid (only_own ho HOW.out HK.out (by decide)); clear HOW; have HOW := HOW'; clear HOW')
            have HC' : Hid (Gr w4 wn) := ho.below _ _ HGB.out HC.out
            clear HC HK
            have HC := HC'
            have HK := Lib.hid hk
            clear HC' hk ho hrun
            obtain ⟨wc, hwc⟩ : ∃ x, x = wn := ⟨_, rfl⟩
            subst hwc
            try simp only [Act.put, List.setIfInBounds_toArray, List.set_cons_zero, List.set_cons_succ]
            refine wpG_two (i := 2) (j := 10) rfl rfl (by kernel_rfl) (by rfl) (by rfl) ?_ ?_
            · go_simp
              refine (NM.out wc HC.out).mono ?_
              rintro e wn ⟨a2, n2, c2, us, rfl, hst, how, hb⟩
              refine ⟨hb.mono (Below.size HC.out), ?_⟩
              try (have HGP' := Lib.hid (heap_below HGP.out hb); clear HGP; have HGP := HGP'; clear HGP')
              try (have HOW' := Lib.hid (ownsRow_below HOW.out hb); clear HOW; have HOW := HOW'; clear HOW')
              try (have HK' := Lib.hid (heap_below HK.out hb); clear HK; have HK := HK'; clear HK')
              try (have HQ' := Lib.hid (HQ.out.below hb); clear HQ; have HQ := HQ'; clear HQ')
              have HC' : Hid (Gr w4 wn) := Below.trans HC.out (Below.mono hb (Below.size HC.out))
              clear HC
              have HC := HC'
              clear HC'
              have HOW := Lib.hid how
              have HSMALL : Hid ((∀ s ∈ us, s.size ≤ 1600) ∧ n2 ≤ 70) := ⟨hst.small, hst.few⟩
              clear hst how hb
              obtain ⟨wc, hwc⟩ : ∃ x, x = wn := ⟨_, rfl⟩
              subst hwc
              try simp only [Act.put, List.setIfInBounds_toArray, List.set_cons_zero, List.set_cons_succ]
              refine wpG_two (i := 6) (j := 10) rfl rfl (by kernel_rfl) (by rfl) (by rfl) ?_ ?_
              · go_simp
                have hbk : Bs wc (.slice (some ⟨gc, 0, none⟩) 6 6) cook := mark_bs cook 6 rfl (by decide) (by rw [← cook_cells]; exact HK.out)
                refine (offer_any y a2 n2 c2 us d (some ⟨gc, 0, none⟩) 6 6 cook wc ⟨own_rd HOW.out, HSMALL.out.1, HSMALL.out.2⟩ (HD4.out.below HC.out) HDS.out hbk (by decide) HY.out).mono ?_
                rintro e wn ⟨A1, L1, C1, rfl, hown, hb⟩
                refine ⟨hb.mono (Below.size HC.out), ?_⟩
                obtain ⟨r1, hr1⟩ : ∃ r, r = offerP y us d.plain cook := ⟨_, rfl⟩
                rw [← hr1] at hown ⊢
                have HR1 := Lib.hid hr1
                have hq := OwnB.mono hown (Below.size HC.out)
                try (have HGP' := Lib.hid (heap_below HGP.out hb); clear HGP; have HGP := HGP'; clear HGP')
                try (have HOW' := Lib.hid (ownsRow_below HOW.out hb); clear HOW; have HOW := HOW'; clear HOW')
                try (have HK' := Lib.hid (heap_below HK.out hb); clear HK; have HK := HK'; clear HK')
                try (have HQ' := Lib.hid (HQ.out.below hb); clear HQ; have HQ := HQ'; clear HQ')
                have HC' : Hid (Gr w4 wn) := Below.trans HC.out (Below.mono hb (Below.size HC.out))
                clear HC
                have HC := HC'
                clear HC'
                have HQ := Lib.hid hq
                clear hown hb hbk hr1 hq
                obtain ⟨wc, hwc⟩ : ∃ x, x = wn := ⟨_, rfl⟩
                subst hwc
                try simp only [Act.put, List.setIfInBounds_toArray, List.set_cons_zero, List.set_cons_succ]
                -- 7: slot 37
                refine wpG_take (preBelow (w4.heap.size)) (i := 7) (v := ?_) (by kernel_rfl) (some 37) (by kernel_rfl) rfl (by kernel_rfl) (by kernel_rfl) (by kernel_rfl) (fun _ _ _ h => h) (by rfl) (fun w' hw' => ?_) rfl ?_
                rotate_left
                · try have g0 := (cells8 (heap_below HGD4.out (Gr.trans' HC.out hw'))).1
                  try have g1 := (cells8 (heap_below HGD4.out (Gr.trans' HC.out hw'))).2.1
                  try have g2 := (cells8 (heap_below HGD4.out (Gr.trans' HC.out hw'))).2.2.1
                  try have g3 := (cells8 (heap_below HGD4.out (Gr.trans' HC.out hw'))).2.2.2.1
                  try have g4 := (cells8 (heap_below HGD4.out (Gr.trans' HC.out hw'))).2.2.2.2.1
                  try have g5 := (cells8 (heap_below HGD4.out (Gr.trans' HC.out hw'))).2.2.2.2.2.1
                  try have g6 := (cells8 (heap_below HGD4.out (Gr.trans' HC.out hw'))).2.2.2.2.2.2.1
                  try have g7 := (cells8 (heap_below HGD4.out (Gr.trans' HC.out hw'))).2.2.2.2.2.2.2
                  go_simp
                  with_reducible rfl
                simp only [Act.put, List.setIfInBounds_toArray, List.set_cons_zero, List.set_cons_succ]
                -- 8: slot 45
                refine wpG_take (preBelow (w4.heap.size)) (i := 8) (v := ?_) (by kernel_rfl) (some 45) (by kernel_rfl) rfl (by kernel_rfl) (by kernel_rfl) (by kernel_rfl) (fun _ _ _ h => h) (by rfl) (fun w' hw' => ?_) rfl ?_
                rotate_left
                · try have g0 := (cells8 (heap_below HGD4.out (Gr.trans' HC.out hw'))).1
                  try have g1 := (cells8 (heap_below HGD4.out (Gr.trans' HC.out hw'))).2.1
                  try have g2 := (cells8 (heap_below HGD4.out (Gr.trans' HC.out hw'))).2.2.1
                  try have g3 := (cells8 (heap_below HGD4.out (Gr.trans' HC.out hw'))).2.2.2.1
                  try have g4 := (cells8 (heap_below HGD4.out (Gr.trans' HC.out hw'))).2.2.2.2.1
                  try have g5 := (cells8 (heap_below HGD4.out (Gr.trans' HC.out hw'))).2.2.2.2.2.1
                  try have g6 := (cells8 (heap_below HGD4.out (Gr.trans' HC.out hw'))).2.2.2.2.2.2.1
                  try have g7 := (cells8 (heap_below HGD4.out (Gr.trans' HC.out hw'))).2.2.2.2.2.2.2
                  go_simp
                  with_reducible rfl
                simp only [Act.put, List.setIfInBounds_toArray, List.set_cons_zero, List.set_cons_succ]
                -- 9: slot 46
                refine wpG_take (preBelow (w4.heap.size)) (i := 9) (v := ?_) (by kernel_rfl) (some 46) (by kernel_rfl) rfl (by kernel_rfl) (by kernel_rfl) (by kernel_rfl) (fun _ _ _ h => h) (by rfl) (fun w' hw' => ?_) rfl ?_
                rotate_left
                · try have g0 := (cells8 (heap_below HGD4.out (Gr.trans' HC.out hw'))).1
                  try have g1 := (cells8 (heap_below HGD4.out (Gr.trans' HC.out hw'))).2.1
                  try have g2 := (cells8 (heap_below HGD4.out (Gr.trans' HC.out hw'))).2.2.1
                  try have g3 := (cells8 (heap_below HGD4.out (Gr.trans' HC.out hw'))).2.2.2.1
                  try have g4 := (cells8 (heap_below HGD4.out (Gr.trans' HC.out hw'))).2.2.2.2.1
                  try have g5 := (cells8 (heap_below HGD4.out (Gr.trans' HC.out hw'))).2.2.2.2.2.1
                  try have g6 := (cells8 (heap_below HGD4.out (Gr.trans' HC.out hw'))).2.2.2.2.2.2.1
                  try have g7 := (cells8 (heap_below HGD4.out (Gr.trans' HC.out hw'))).2.2.2.2.2.2.2
                  go_simp
                  with_reducible rfl
                simp only [Act.put, List.setIfInBounds_toArray, List.set_cons_zero, List.set_cons_succ]
                refine wpG_one (i := 10) rfl (by kernel_rfl) (by rfl) ?_
                go_simp
                have hb : Below wc.heap.size wc (wc.alloc (.cells #[.int .i64 0, .int .i64 0, .slice none 0 0] 24)) := (Below.refl _ _).alloc (Nat.le_refl _) _
                refine ⟨hb.mono (Below.size HC.out), ?_⟩
                have hk : (wc.alloc (.cells #[.int .i64 0, .int .i64 0, .slice none 0 0] 24)).heap[wc.heap.size]? = some (.cells #[.int .i64 0, .int .i64 0, .slice none 0 0] 24 (0, 0)) := heap_alloc_last _ _
                have hgb : w4.heap.size ≤ wc.heap.size := Below.size HC.out
                generalize wc.alloc (.cells #[.int .i64 0, .int .i64 0, .slice none 0 0] 24) = wn at hb hk ⊢
                try (have HGP' := Lib.hid (heap_below HGP.out hb); clear HGP; have HGP := HGP'; clear HGP')
                try (have HOW' := Lib.hid (ownsRow_below HOW.out hb); clear HOW; have HOW := HOW'; clear HOW')
                try (have HK' := Lib.hid (heap_below HK.out hb); clear HK; have HK := HK'; clear HK')
                try (have HQ' := Lib.hid (HQ.out.below hb); clear HQ; have HQ := HQ'; clear HQ')
                have HC' : Hid (Gr w4 wn) := Below.trans HC.out (Below.mono hb (Below.size HC.out))
                clear HC
                have HC := HC'
                clear HC'
                obtain ⟨gp, hgp⟩ : ∃ g, g = wc.heap.size := ⟨_, rfl⟩
                rw [← hgp] at hk hgb ⊢
                have HGP := Lib.hid hk
                have HGPB := Lib.hid hgb
                clear hgp hb hk hgb
                obtain ⟨wc, hwc⟩ : ∃ x, x = wn := ⟨_, rfl⟩
                subst hwc
                try simp only [Act.put, List.setIfInBounds_toArray, List.set_cons_zero, List.set_cons_succ]
                refine wpG_one (i := 11) rfl (by kernel_rfl) (by rfl) ?_
                refine wp_store_whole (none) 24 (.tmp 11) (.tmp 45) rfl gp [.int .i64 r1.1.c, .int .i64 r1.1.s, .slice A1 L1 C1] rfl rfl 24 [.int .i64 0, .int .i64 0, .slice none 0 0] HGP.out (by kernel_rfl) rfl ?o1 rfl ?_
                case o1 => intro u hu; simp only [List.mem_cons, List.not_mem_nil, or_false] at hu; rcases hu with rfl | rfl | rfl <;> rfl
                intro wn h5 ho
                refine ⟨ho.below _ _ HGPB.out (Below.refl _ _), ?_⟩
                have HPK : Hid (PkAt w4 wn (.pointer (some ⟨gp, 0, none⟩)) r1) := ⟨gp, A1, L1, C1, rfl, h5, OwnB.bs (only_own ho HQ.out HGP.out (by decide)), ho.below _ _ HGPB.out HC.out⟩
                clear h5 ho
                try simp only [Act.put, List.setIfInBounds_toArray, List.set_cons_zero, List.set_cons_succ]
                -- 12: slot 12
                refine wpG_take (preBelow (w4.heap.size)) (i := 12) (v := ?_) (by kernel_rfl) (some 12) (by kernel_rfl) rfl (by kernel_rfl) (by kernel_rfl) (by kernel_rfl) (fun _ _ _ h => h) (by rfl) (fun w' hw' => ?_) rfl ?_
                rotate_left
                · try have g0 := (cells8 (heap_below HGD4.out (Gr.trans' HC.out hw'))).1
                  try have g1 := (cells8 (heap_below HGD4.out (Gr.trans' HC.out hw'))).2.1
                  try have g2 := (cells8 (heap_below HGD4.out (Gr.trans' HC.out hw'))).2.2.1
                  try have g3 := (cells8 (heap_below HGD4.out (Gr.trans' HC.out hw'))).2.2.2.1
                  try have g4 := (cells8 (heap_below HGD4.out (Gr.trans' HC.out hw'))).2.2.2.2.1
                  try have g5 := (cells8 (heap_below HGD4.out (Gr.trans' HC.out hw'))).2.2.2.2.2.1
                  try have g6 := (cells8 (heap_below HGD4.out (Gr.trans' HC.out hw'))).2.2.2.2.2.2.1
                  try have g7 := (cells8 (heap_below HGD4.out (Gr.trans' HC.out hw'))).2.2.2.2.2.2.2
                  go_simp
                  with_reducible rfl
                simp only [Act.put, List.setIfInBounds_toArray, List.set_cons_zero, List.set_cons_succ]
                refine wpG_done (by kernel_rfl) ?_ _
                go_wp2_with fail
                go_meet
                exact ⟨us, by rw [← HR1.out], by rw [← HR1.out]; exact HPK⟩
              · go_simp
                have hb : Below wc.heap.size wc (wc.alloc (.cells #[.int .i64 0, .int .i64 0, .slice none 0 0] 24)) := (Below.refl _ _).alloc (Nat.le_refl _) _
                refine ⟨hb.mono (Below.size HC.out), ?_⟩
                have hk : (wc.alloc (.cells #[.int .i64 0, .int .i64 0, .slice none 0 0] 24)).heap[wc.heap.size]? = some (.cells #[.int .i64 0, .int .i64 0, .slice none 0 0] 24 (0, 0)) := heap_alloc_last _ _
                have hgb : w4.heap.size ≤ wc.heap.size := Below.size HC.out
                generalize wc.alloc (.cells #[.int .i64 0, .int .i64 0, .slice none 0 0] 24) = wn at hb hk ⊢
                try (have HGP' := Lib.hid (heap_below HGP.out hb); clear HGP; have HGP := HGP'; clear HGP')
                try (have HOW' := Lib.hid (ownsRow_below HOW.out hb); clear HOW; have HOW := HOW'; clear HOW')
                try (have HK' := Lib.hid (heap_below HK.out hb); clear HK; have HK := HK'; clear HK')
                try (have HQ' := Lib.hid (HQ.out.below hb); clear HQ; have HQ := HQ'; clear HQ')
                have HC' : Hid (Gr w4 wn) := Below.trans HC.out (Below.mono hb (Below.size HC.out))
                clear HC
                have HC := HC'
                clear HC'
                obtain ⟨gp, hgp⟩ : ∃ g, g = wc.heap.size := ⟨_, rfl⟩
                rw [← hgp] at hk hgb ⊢
                have HGP := Lib.hid hk
                have HGPB := Lib.hid hgb
                clear hgp hb hk hgb
                obtain ⟨wc, hwc⟩ : ∃ x, x = wn := ⟨_, rfl⟩
                subst hwc
                try simp only [Act.put, List.setIfInBounds_toArray, List.set_cons_zero, List.set_cons_succ]
                refine wpG_one (i := 6) rfl (by kernel_rfl) (by rfl) ?_
                go_simp
                have hbk : Bs wc (.slice (some ⟨gc, 0, none⟩) 6 6) cook := mark_bs cook 6 rfl (by decide) (by rw [← cook_cells]; exact HK.out)
                refine (offer_any y a2 n2 c2 us d (some ⟨gc, 0, none⟩) 6 6 cook wc ⟨own_rd HOW.out, HSMALL.out.1, HSMALL.out.2⟩ (HD4.out.below HC.out) HDS.out hbk (by decide) HY.out).mono ?_
                rintro e wn ⟨A1, L1, C1, rfl, hown, hb⟩
                refine ⟨hb.mono (Below.size HC.out), ?_⟩
                obtain ⟨r1, hr1⟩ : ∃ r, r = offerP y us d.plain cook := ⟨_, rfl⟩
                rw [← hr1] at hown ⊢
                have HR1 := Lib.hid hr1
                have hq := OwnB.mono hown (Below.size HC.out)
                try (have HGP' := Lib.hid (heap_below HGP.out hb); clear HGP; have HGP := HGP'; clear HGP')
                try (have HOW' := Lib.hid (ownsRow_below HOW.out hb); clear HOW; have HOW := HOW'; clear HOW')
                try (have HK' := Lib.hid (heap_below HK.out hb); clear HK; have HK := HK'; clear HK')
                try (have HQ' := Lib.hid (HQ.out.below hb); clear HQ; have HQ := HQ'; clear HQ')
                have HC' : Hid (Gr w4 wn) := Below.trans HC.out (Below.mono hb (Below.size HC.out))
                clear HC
                have HC := HC'
                clear HC'
                have HQ := Lib.hid hq
                clear hown hb hbk hr1 hq
                obtain ⟨wc, hwc⟩ : ∃ x, x = wn := ⟨_, rfl⟩
                subst hwc
                try simp only [Act.put, List.setIfInBounds_toArray, List.set_cons_zero, List.set_cons_succ]
                -- 7: slot 37
                refine wpG_take (preBelow (w4.heap.size)) (i := 7) (v := ?_) (by kernel_rfl) (some 37) (by kernel_rfl) rfl (by kernel_rfl) (by kernel_rfl) (by kernel_rfl) (fun _ _ _ h => h) (by rfl) (fun w' hw' => ?_) rfl ?_
                rotate_left
                · try have g0 := (cells8 (heap_below HGD4.out (Gr.trans' HC.out hw'))).1
                  try have g1 := (cells8 (heap_below HGD4.out (Gr.trans' HC.out hw'))).2.1
                  try have g2 := (cells8 (heap_below HGD4.out (Gr.trans' HC.out hw'))).2.2.1
                  try have g3 := (cells8 (heap_below HGD4.out (Gr.trans' HC.out hw'))).2.2.2.1
                  try have g4 := (cells8 (heap_below HGD4.out (Gr.trans' HC.out hw'))).2.2.2.2.1
                  try have g5 := (cells8 (heap_below HGD4.out (Gr.trans' HC.out hw'))).2.2.2.2.2.1
                  try have g6 := (cells8 (heap_below HGD4.out (Gr.trans' HC.out hw'))).2.2.2.2.2.2.1
                  try have g7 := (cells8 (heap_below HGD4.out (Gr.trans' HC.out hw'))).2.2.2.2.2.2.2
                  go_simp
                  with_reducible rfl
                simp only [Act.put, List.setIfInBounds_toArray, List.set_cons_zero, List.set_cons_succ]
                -- 8: slot 45
                refine wpG_take (preBelow (w4.heap.size)) (i := 8) (v := ?_) (by kernel_rfl) (some 45) (by kernel_rfl) rfl (by kernel_rfl) (by kernel_rfl) (by kernel_rfl) (fun _ _ _ h => h) (by rfl) (fun w' hw' => ?_) rfl ?_
                rotate_left
                · try have g0 := (cells8 (heap_below HGD4.out (Gr.trans' HC.out hw'))).1
                  try have g1 := (cells8 (heap_below HGD4.out (Gr.trans' HC.out hw'))).2.1
                  try have g2 := (cells8 (heap_below HGD4.out (Gr.trans' HC.out hw'))).2.2.1
                  try have g3 := (cells8 (heap_below HGD4.out (Gr.trans' HC.out hw'))).2.2.2.1
                  try have g4 := (cells8 (heap_below HGD4.out (Gr.trans' HC.out hw'))).2.2.2.2.1
                  try have g5 := (cells8 (heap_below HGD4.out (Gr.trans' HC.out hw'))).2.2.2.2.2.1
                  try have g6 := (cells8 (heap_below HGD4.out (Gr.trans' HC.out hw'))).2.2.2.2.2.2.1
                  try have g7 := (cells8 (heap_below HGD4.out (Gr.trans' HC.out hw'))).2.2.2.2.2.2.2
                  go_simp
                  with_reducible rfl
                simp only [Act.put, List.setIfInBounds_toArray, List.set_cons_zero, List.set_cons_succ]
                -- 9: slot 46
                refine wpG_take (preBelow (w4.heap.size)) (i := 9) (v := ?_) (by kernel_rfl) (some 46) (by kernel_rfl) rfl (by kernel_rfl) (by kernel_rfl) (by kernel_rfl) (fun _ _ _ h => h) (by rfl) (fun w' hw' => ?_) rfl ?_
                rotate_left
                · try have g0 := (cells8 (heap_below HGD4.out (Gr.trans' HC.out hw'))).1
                  try have g1 := (cells8 (heap_below HGD4.out (Gr.trans' HC.out hw'))).2.1
                  try have g2 := (cells8 (heap_below HGD4.out (Gr.trans' HC.out hw'))).2.2.1
                  try have g3 := (cells8 (heap_below HGD4.out (Gr.trans' HC.out hw'))).2.2.2.1
                  try have g4 := (cells8 (heap_below HGD4.out (Gr.trans' HC.out hw'))).2.2.2.2.1
                  try have g5 := (cells8 (heap_below HGD4.out (Gr.trans' HC.out hw'))).2.2.2.2.2.1
                  try have g6 := (cells8 (heap_below HGD4.out (Gr.trans' HC.out hw'))).2.2.2.2.2.2.1
                  try have g7 := (cells8 (heap_below HGD4.out (Gr.trans' HC.out hw'))).2.2.2.2.2.2.2
                  go_simp
                  with_reducible rfl
                simp only [Act.put, List.setIfInBounds_toArray, List.set_cons_zero, List.set_cons_succ]
                refine wpG_one (i := 11) rfl (by kernel_rfl) (by rfl) ?_
                refine wp_store_whole (none) 24 (.tmp 11) (.tmp 45) rfl gp [.int .i64 r1.1.c, .int .i64 r1.1.s, .slice A1 L1 C1] rfl rfl 24 [.int .i64 0, .int .i64 0, .slice none 0 0] HGP.out (by kernel_rfl) rfl ?o1 rfl ?_
                case o1 => intro u hu; simp only [List.mem_cons, List.not_mem_nil, or_false] at hu; rcases hu with rfl | rfl | rfl <;> rfl
                intro wn h5 ho
                refine ⟨ho.below _ _ HGPB.out (Below.refl _ _), ?_⟩
                have HPK : Hid (PkAt w4 wn (.pointer (some ⟨gp, 0, none⟩)) r1) := ⟨gp, A1, L1, C1, rfl, h5, OwnB.bs (only_own ho HQ.out HGP.out (by decide)), ho.below _ _ HGPB.out HC.out⟩
                clear h5 ho
                try simp only [Act.put, List.setIfInBounds_toArray, List.set_cons_zero, List.set_cons_succ]
                -- 12: slot 12
                refine wpG_take (preBelow (w4.heap.size)) (i := 12) (v := ?_) (by kernel_rfl) (some 12) (by kernel_rfl) rfl (by kernel_rfl) (by kernel_rfl) (by kernel_rfl) (fun _ _ _ h => h) (by rfl) (fun w' hw' => ?_) rfl ?_
                rotate_left
                · try have g0 := (cells8 (heap_below HGD4.out (Gr.trans' HC.out hw'))).1
                  try have g1 := (cells8 (heap_below HGD4.out (Gr.trans' HC.out hw'))).2.1
                  try have g2 := (cells8 (heap_below HGD4.out (Gr.trans' HC.out hw'))).2.2.1
                  try have g3 := (cells8 (heap_below HGD4.out (Gr.trans' HC.out hw'))).2.2.2.1
                  try have g4 := (cells8 (heap_below HGD4.out (Gr.trans' HC.out hw'))).2.2.2.2.1
                  try have g5 := (cells8 (heap_below HGD4.out (Gr.trans' HC.out hw'))).2.2.2.2.2.1
                  try have g6 := (cells8 (heap_below HGD4.out (Gr.trans' HC.out hw'))).2.2.2.2.2.2.1
                  try have g7 := (cells8 (heap_below HGD4.out (Gr.trans' HC.out hw'))).2.2.2.2.2.2.2
                  go_simp
                  with_reducible rfl
                simp only [Act.put, List.setIfInBounds_toArray, List.set_cons_zero, List.set_cons_succ]
                refine wpG_done (by kernel_rfl) ?_ _
                go_wp2_with fail
                go_meet
                exact ⟨us, by rw [← HR1.out], by rw [← HR1.out]; exact HPK⟩
            · go_simp
              have hb : Below wc.heap.size wc (wc.alloc (.cells #[.int .i64 0, .int .i64 0, .slice none 0 0] 24)) := (Below.refl _ _).alloc (Nat.le_refl _) _
              refine ⟨hb.mono (Below.size HC.out), ?_⟩
              have hk : (wc.alloc (.cells #[.int .i64 0, .int .i64 0, .slice none 0 0] 24)).heap[wc.heap.size]? = some (.cells #[.int .i64 0, .int .i64 0, .slice none 0 0] 24 (0, 0)) := heap_alloc_last _ _
              have hgb : w4.heap.size ≤ wc.heap.size := Below.size HC.out
              generalize wc.alloc (.cells #[.int .i64 0, .int .i64 0, .slice none 0 0] 24) = wn at hb hk ⊢
              try (have HGP' := Lib.hid (heap_below HGP.out hb); clear HGP; have HGP := HGP'; clear HGP')
              try (have HOW' := Lib.hid (ownsRow_below HOW.out hb); clear HOW; have HOW := HOW'; clear HOW')
              try (have HK' := Lib.hid (heap_below HK.out hb); clear HK; have HK := HK'; clear HK')
              try (have HQ' := Lib.hid (HQ.out.below hb); clear HQ; have HQ := HQ'; clear HQ')
              have HC' : Hid (Gr w4 wn) := Below.trans HC.out (Below.mono hb (Below.size HC.out))
              clear HC
              have HC := HC'
              clear HC'
              obtain ⟨gp, hgp⟩ : ∃ g, g = wc.heap.size := ⟨_, rfl⟩
              rw [← hgp] at hk hgb ⊢
              have HGP := Lib.hid hk
              have HGPB := Lib.hid hgb
              clear hgp hb hk hgb
              obtain ⟨wc, hwc⟩ : ∃ x, x = wn := ⟨_, rfl⟩
              subst hwc
              try simp only [Act.put, List.setIfInBounds_toArray, List.set_cons_zero, List.set_cons_succ]
              refine wpG_one (i := 2) rfl (by kernel_rfl) (by rfl) ?_
              go_simp
              refine (NM.out wc HC.out).mono ?_
              rintro e wn ⟨a2, n2, c2, us, rfl, hst, how, hb⟩
              refine ⟨hb.mono (Below.size HC.out), ?_⟩
              try (have HGP' := Lib.hid (heap_below HGP.out hb); clear HGP; have HGP := HGP'; clear HGP')
              try (have HOW' := Lib.hid (ownsRow_below HOW.out hb); clear HOW; have HOW := HOW'; clear HOW')
              try (have HK' := Lib.hid (heap_below HK.out hb); clear HK; have HK := HK'; clear HK')
              try (have HQ' := Lib.hid (HQ.out.below hb); clear HQ; have HQ := HQ'; clear HQ')
              have HC' : Hid (Gr w4 wn) := Below.trans HC.out (Below.mono hb (Below.size HC.out))
              clear HC
              have HC := HC'
              clear HC'
              have HOW := Lib.hid how
              have HSMALL : Hid ((∀ s ∈ us, s.size ≤ 1600) ∧ n2 ≤ 70) := ⟨hst.small, hst.few⟩
              clear hst how hb
              obtain ⟨wc, hwc⟩ : ∃ x, x = wn := ⟨_, rfl⟩
              subst hwc
              try simp only [Act.put, List.setIfInBounds_toArray, List.set_cons_zero, List.set_cons_succ]
              refine wpG_one (i := 6) rfl (by kernel_rfl) (by rfl) ?_
              go_simp
              have hbk : Bs wc (.slice (some ⟨gc, 0, none⟩) 6 6) cook := mark_bs cook 6 rfl (by decide) (by rw [← cook_cells]; exact HK.out)
              refine (offer_any y a2 n2 c2 us d (some ⟨gc, 0, none⟩) 6 6 cook wc ⟨own_rd HOW.out, HSMALL.out.1, HSMALL.out.2⟩ (HD4.out.below HC.out) HDS.out hbk (by decide) HY.out).mono ?_
              rintro e wn ⟨A1, L1, C1, rfl, hown, hb⟩
              refine ⟨hb.mono (Below.size HC.out), ?_⟩
              obtain ⟨r1, hr1⟩ : ∃ r, r = offerP y us d.plain cook := ⟨_, rfl⟩
              rw [← hr1] at hown ⊢
              have HR1 := Lib.hid hr1
              have hq := OwnB.mono hown (Below.size HC.out)
              try (have HGP' := Lib.hid (heap_below HGP.out hb); clear HGP; have HGP := HGP'; clear HGP')
              try (have HOW' := Lib.hid (ownsRow_below HOW.out hb); clear HOW; have HOW := HOW'; clear HOW')
              try (have HK' := Lib.hid (heap_below HK.out hb); clear HK; have HK := HK'; clear HK')
              try (have HQ' := Lib.hid (HQ.out.below hb); clear HQ; have HQ := HQ'; clear HQ')
              have HC' : Hid (Gr w4 wn) := Below.trans HC.out (Below.mono hb (Below.size HC.out))
              clear HC
              have HC := HC'
              clear HC'
              have HQ := Lib.hid hq
              clear hown hb hbk hr1 hq
              obtain ⟨wc, hwc⟩ : ∃ x, x = wn := ⟨_, rfl⟩
              subst hwc
              try simp only [Act.put, List.setIfInBounds_toArray, List.set_cons_zero, List.set_cons_succ]
              -- 7: slot 37
              refine wpG_take (preBelow (w4.heap.size)) (i := 7) (v := ?_) (by kernel_rfl) (some 37) (by kernel_rfl) rfl (by kernel_rfl) (by kernel_rfl) (by kernel_rfl) (fun _ _ _ h => h) (by rfl) (fun w' hw' => ?_) rfl ?_
              rotate_left
              · try have g0 := (cells8 (heap_below HGD4.out (Gr.trans' HC.out hw'))).1
                try have g1 := (cells8 (heap_below HGD4.out (Gr.trans' HC.out hw'))).2.1
                try have g2 := (cells8 (heap_below HGD4.out (Gr.trans' HC.out hw'))).2.2.1
                try have g3 := (cells8 (heap_below HGD4.out (Gr.trans' HC.out hw'))).2.2.2.1
                try have g4 := (cells8 (heap_below HGD4.out (Gr.trans' HC.out hw'))).2.2.2.2.1
                try have g5 := (cells8 (heap_below HGD4.out (Gr.trans' HC.out hw'))).2.2.2.2.2.1
                try have g6 := (cells8 (heap_below HGD4.out (Gr.trans' HC.out hw'))).2.2.2.2.2.2.1
                try have g7 := (cells8 (heap_below HGD4.out (Gr.trans' HC.out hw'))).2.2.2.2.2.2.2
                go_simp
                with_reducible rfl
              simp only [Act.put, List.setIfInBounds_toArray, List.set_cons_zero, List.set_cons_succ]
              -- 8: slot 45
              refine wpG_take (preBelow (w4.heap.size)) (i := 8) (v := ?_) (by kernel_rfl) (some 45) (by kernel_rfl) rfl (by kernel_rfl) (by kernel_rfl) (by kernel_rfl) (fun _ _ _ h => h) (by rfl) (fun w' hw' => ?_) rfl ?_
              rotate_left
              · try have g0 := (cells8 (heap_below HGD4.out (Gr.trans' HC.out hw'))).1
                try have g1 := (cells8 (heap_below HGD4.out (Gr.trans' HC.out hw'))).2.1
                try have g2 := (cells8 (heap_below HGD4.out (Gr.trans' HC.out hw'))).2.2.1
                try have g3 := (cells8 (heap_below HGD4.out (Gr.trans' HC.out hw'))).2.2.2.1
                try have g4 := (cells8 (heap_below HGD4.out (Gr.trans' HC.out hw'))).2.2.2.2.1
                try have g5 := (cells8 (heap_below HGD4.out (Gr.trans' HC.out hw'))).2.2.2.2.2.1
                try have g6 := (cells8 (heap_below HGD4.out (Gr.trans' HC.out hw'))).2.2.2.2.2.2.1
                try have g7 := (cells8 (heap_below HGD4.out (Gr.trans' HC.out hw'))).2.2.2.2.2.2.2
                go_simp
                with_reducible rfl
              simp only [Act.put, List.setIfInBounds_toArray, List.set_cons_zero, List.set_cons_succ]
              -- 9: slot 46
              refine wpG_take (preBelow (w4.heap.size)) (i := 9) (v := ?_) (by kernel_rfl) (some 46) (by kernel_rfl) rfl (by kernel_rfl) (by kernel_rfl) (by kernel_rfl) (fun _ _ _ h => h) (by rfl) (fun w' hw' => ?_) rfl ?_
              rotate_left
              · try have g0 := (cells8 (heap_below HGD4.out (Gr.trans' HC.out hw'))).1
                try have g1 := (cells8 (heap_below HGD4.out (Gr.trans' HC.out hw'))).2.1
                try have g2 := (cells8 (heap_below HGD4.out (Gr.trans' HC.out hw'))).2.2.1
                try have g3 := (cells8 (heap_below HGD4.out (Gr.trans' HC.out hw'))).2.2.2.1
                try have g4 := (cells8 (heap_below HGD4.out (Gr.trans' HC.out hw'))).2.2.2.2.1
                try have g5 := (cells8 (heap_below HGD4.out (Gr.trans' HC.out hw'))).2.2.2.2.2.1
                try have g6 := (cells8 (heap_below HGD4.out (Gr.trans' HC.out hw'))).2.2.2.2.2.2.1
                try have g7 := (cells8 (heap_below HGD4.out (Gr.trans' HC.out hw'))).2.2.2.2.2.2.2
                go_simp
                with_reducible rfl
              simp only [Act.put, List.setIfInBounds_toArray, List.set_cons_zero, List.set_cons_succ]
              refine wpG_one (i := 11) rfl (by kernel_rfl) (by rfl) ?_
              refine wp_store_whole (none) 24 (.tmp 11) (.tmp 45) rfl gp [.int .i64 r1.1.c, .int .i64 r1.1.s, .slice A1 L1 C1] rfl rfl 24 [.int .i64 0, .int .i64 0, .slice none 0 0] HGP.out (by kernel_rfl) rfl ?o1 rfl ?_
              case o1 => intro u hu; simp only [List.mem_cons, List.not_mem_nil, or_false] at hu; rcases hu with rfl | rfl | rfl <;> rfl
              intro wn h5 ho
              refine ⟨ho.below _ _ HGPB.out (Below.refl _ _), ?_⟩
              have HPK : Hid (PkAt w4 wn (.pointer (some ⟨gp, 0, none⟩)) r1) := ⟨gp, A1, L1, C1, rfl, h5, OwnB.bs (only_own ho HQ.out HGP.out (by decide)), ho.below _ _ HGPB.out HC.out⟩
              clear h5 ho
              try simp only [Act.put, List.setIfInBounds_toArray, List.set_cons_zero, List.set_cons_succ]
              -- 12: slot 12
              refine wpG_take (preBelow (w4.heap.size)) (i := 12) (v := ?_) (by kernel_rfl) (some 12) (by kernel_rfl) rfl (by kernel_rfl) (by kernel_rfl) (by kernel_rfl) (fun _ _ _ h => h) (by rfl) (fun w' hw' => ?_) rfl ?_
              rotate_left
              · try have g0 := (cells8 (heap_below HGD4.out (Gr.trans' HC.out hw'))).1
                try have g1 := (cells8 (heap_below HGD4.out (Gr.trans' HC.out hw'))).2.1
                try have g2 := (cells8 (heap_below HGD4.out (Gr.trans' HC.out hw'))).2.2.1
                try have g3 := (cells8 (heap_below HGD4.out (Gr.trans' HC.out hw'))).2.2.2.1
                try have g4 := (cells8 (heap_below HGD4.out (Gr.trans' HC.out hw'))).2.2.2.2.1
                try have g5 := (cells8 (heap_below HGD4.out (Gr.trans' HC.out hw'))).2.2.2.2.2.1
                try have g6 := (cells8 (heap_below HGD4.out (Gr.trans' HC.out hw'))).2.2.2.2.2.2.1
                try have g7 := (cells8 (heap_below HGD4.out (Gr.trans' HC.out hw'))).2.2.2.2.2.2.2
                go_simp
                with_reducible rfl
              simp only [Act.put, List.setIfInBounds_toArray, List.set_cons_zero, List.set_cons_succ]
              refine wpG_done (by kernel_rfl) ?_ _
              go_wp2_with fail
              go_meet
              exact ⟨us, by rw [← HR1.out], by rw [← HR1.out]; exact HPK⟩
          · go_simp
            have hb : Below wc.heap.size wc (wc.alloc (.cells #[.int .i64 0, .int .i64 0, .slice none 0 0] 24)) := (Below.refl _ _).alloc (Nat.le_refl _) _
            refine ⟨hb.mono (Below.size HC.out), ?_⟩
            have hk : (wc.alloc (.cells #[.int .i64 0, .int .i64 0, .slice none 0 0] 24)).heap[wc.heap.size]? = some (.cells #[.int .i64 0, .int .i64 0, .slice none 0 0] 24 (0, 0)) := heap_alloc_last _ _
            have hgb : w4.heap.size ≤ wc.heap.size := Below.size HC.out
            generalize wc.alloc (.cells #[.int .i64 0, .int .i64 0, .slice none 0 0] 24) = wn at hb hk ⊢
            try (have HGP' := Lib.hid (heap_below HGP.out hb); clear HGP; have HGP := HGP'; clear HGP')
            try (have HOW' := Lib.hid (ownsRow_below HOW.out hb); clear HOW; have HOW := HOW'; clear HOW')
            try (have HK' := Lib.hid (heap_below HK.out hb); clear HK; have HK := HK'; clear HK')
            try (have HQ' := Lib.hid (HQ.out.below hb); clear HQ; have HQ := HQ'; clear HQ')
            have HC' : Hid (Gr w4 wn) := Below.trans HC.out (Below.mono hb (Below.size HC.out))
            clear HC
            have HC := HC'
            clear HC'
            obtain ⟨gp, hgp⟩ : ∃ g, g = wc.heap.size := ⟨_, rfl⟩
            rw [← hgp] at hk hgb ⊢
            have HGP := Lib.hid hk
            have HGPB := Lib.hid hgb
            clear hgp hb hk hgb
            obtain ⟨wc, hwc⟩ : ∃ x, x = wn := ⟨_, rfl⟩
            subst hwc
            try simp only [Act.put, List.setIfInBounds_toArray, List.set_cons_zero, List.set_cons_succ]
            refine wpG_two (i := 2) (j := 5) rfl rfl (by kernel_rfl) (by rfl) (by rfl) ?_ ?_
            · go_simp
              refine (NM.out wc HC.out).mono ?_
              rintro e wn ⟨a2, n2, c2, us, rfl, hst, how, hb⟩
              refine ⟨hb.mono (Below.size HC.out), ?_⟩
              try (have HGP' := Lib.hid (heap_below HGP.out hb); clear HGP; have HGP := HGP'; clear HGP')
              try (have HOW' := Lib.hid (ownsRow_below HOW.out hb); clear HOW; have HOW := HOW'; clear HOW')
              try (have HK' := Lib.hid (heap_below HK.out hb); clear HK; have HK := HK'; clear HK')
              try (have HQ' := Lib.hid (HQ.out.below hb); clear HQ; have HQ := HQ'; clear HQ')
              have HC' : Hid (Gr w4 wn) := Below.trans HC.out (Below.mono hb (Below.size HC.out))
              clear HC
              have HC := HC'
              clear HC'
              have HOW := Lib.hid how
              have HSMALL : Hid ((∀ s ∈ us, s.size ≤ 1600) ∧ n2 ≤ 70) := ⟨hst.small, hst.few⟩
              clear hst how hb
              obtain ⟨wc, hwc⟩ : ∃ x, x = wn := ⟨_, rfl⟩
              subst hwc
              try simp only [Act.put, List.setIfInBounds_toArray, List.set_cons_zero, List.set_cons_succ]
              refine wpG_one (i := 5) rfl (by kernel_rfl) (by rfl) ?_
              obtain ⟨wn, hrun, ho, hk⟩ := run_mark (P := Try.prog) wc 22 5 gc #[.int .u8 99, .int .u8 111, .int .u8 111, .int .u8 107, .int .u8 105, .int .u8 101] 6 6 HK.out Try.underlying22 Try.underlying5
              go_simp
              refine ⟨ho.below _ _ HGB.out (Below.refl _ _), ?_⟩
              try (have HGP' := Lib.hid (only_heap ho HGP.out HK.out (by decide)); clear HGP; have HGP := HGP'; clear HGP')
              try (have HOW' := Lib.hid (only_own ho HOW.out HK.out (by decide)); clear HOW; have HOW := HOW'; clear HOW')
              have HC' : Hid (Gr w4 wn) := ho.below _ _ HGB.out HC.out
              clear HC HK
              have HC := HC'
              have HK := Lib.hid hk
              clear HC' hk ho hrun
              obtain ⟨wc, hwc⟩ : ∃ x, x = wn := ⟨_, rfl⟩
              subst hwc
              try simp only [Act.put, List.setIfInBounds_toArray, List.set_cons_zero, List.set_cons_succ]
              refine wpG_one (i := 6) rfl (by kernel_rfl) (by rfl) ?_
              go_simp
              have hbk : Bs wc (.slice (some ⟨gc, 0, none⟩) 6 6) cook := mark_bs cook 6 rfl (by decide) (by rw [← cook_cells]; exact HK.out)
              refine (offer_any y a2 n2 c2 us d (some ⟨gc, 0, none⟩) 6 6 cook wc ⟨own_rd HOW.out, HSMALL.out.1, HSMALL.out.2⟩ (HD4.out.below HC.out) HDS.out hbk (by decide) HY.out).mono ?_
              rintro e wn ⟨A1, L1, C1, rfl, hown, hb⟩
              refine ⟨hb.mono (Below.size HC.out), ?_⟩
              obtain ⟨r1, hr1⟩ : ∃ r, r = offerP y us d.plain cook := ⟨_, rfl⟩
              rw [← hr1] at hown ⊢
              have HR1 := Lib.hid hr1
              have hq := OwnB.mono hown (Below.size HC.out)
              try (have HGP' := Lib.hid (heap_below HGP.out hb); clear HGP; have HGP := HGP'; clear HGP')
              try (have HOW' := Lib.hid (ownsRow_below HOW.out hb); clear HOW; have HOW := HOW'; clear HOW')
              try (have HK' := Lib.hid (heap_below HK.out hb); clear HK; have HK := HK'; clear HK')
              try (have HQ' := Lib.hid (HQ.out.below hb); clear HQ; have HQ := HQ'; clear HQ')
              have HC' : Hid (Gr w4 wn) := Below.trans HC.out (Below.mono hb (Below.size HC.out))
              clear HC
              have HC := HC'
              clear HC'
              have HQ := Lib.hid hq
              clear hown hb hbk hr1 hq
              obtain ⟨wc, hwc⟩ : ∃ x, x = wn := ⟨_, rfl⟩
              subst hwc
              try simp only [Act.put, List.setIfInBounds_toArray, List.set_cons_zero, List.set_cons_succ]
              -- 7: slot 37
              refine wpG_take (preBelow (w4.heap.size)) (i := 7) (v := ?_) (by kernel_rfl) (some 37) (by kernel_rfl) rfl (by kernel_rfl) (by kernel_rfl) (by kernel_rfl) (fun _ _ _ h => h) (by rfl) (fun w' hw' => ?_) rfl ?_
              rotate_left
              · try have g0 := (cells8 (heap_below HGD4.out (Gr.trans' HC.out hw'))).1
                try have g1 := (cells8 (heap_below HGD4.out (Gr.trans' HC.out hw'))).2.1
                try have g2 := (cells8 (heap_below HGD4.out (Gr.trans' HC.out hw'))).2.2.1
                try have g3 := (cells8 (heap_below HGD4.out (Gr.trans' HC.out hw'))).2.2.2.1
                try have g4 := (cells8 (heap_below HGD4.out (Gr.trans' HC.out hw'))).2.2.2.2.1
                try have g5 := (cells8 (heap_below HGD4.out (Gr.trans' HC.out hw'))).2.2.2.2.2.1
                try have g6 := (cells8 (heap_below HGD4.out (Gr.trans' HC.out hw'))).2.2.2.2.2.2.1
                try have g7 := (cells8 (heap_below HGD4.out (Gr.trans' HC.out hw'))).2.2.2.2.2.2.2
                go_simp
                with_reducible rfl
              simp only [Act.put, List.setIfInBounds_toArray, List.set_cons_zero, List.set_cons_succ]
              -- 8: slot 45
              refine wpG_take (preBelow (w4.heap.size)) (i := 8) (v := ?_) (by kernel_rfl) (some 45) (by kernel_rfl) rfl (by kernel_rfl) (by kernel_rfl) (by kernel_rfl) (fun _ _ _ h => h) (by rfl) (fun w' hw' => ?_) rfl ?_
              rotate_left
              · try have g0 := (cells8 (heap_below HGD4.out (Gr.trans' HC.out hw'))).1
                try have g1 := (cells8 (heap_below HGD4.out (Gr.trans' HC.out hw'))).2.1
                try have g2 := (cells8 (heap_below HGD4.out (Gr.trans' HC.out hw'))).2.2.1
                try have g3 := (cells8 (heap_below HGD4.out (Gr.trans' HC.out hw'))).2.2.2.1
                try have g4 := (cells8 (heap_below HGD4.out (Gr.trans' HC.out hw'))).2.2.2.2.1
                try have g5 := (cells8 (heap_below HGD4.out (Gr.trans' HC.out hw'))).2.2.2.2.2.1
                try have g6 := (cells8 (heap_below HGD4.out (Gr.trans' HC.out hw'))).2.2.2.2.2.2.1
                try have g7 := (cells8 (heap_below HGD4.out (Gr.trans' HC.out hw'))).2.2.2.2.2.2.2
                go_simp
                with_reducible rfl
              simp only [Act.put, List.setIfInBounds_toArray, List.set_cons_zero, List.set_cons_succ]
              -- 9: slot 46
              refine wpG_take (preBelow (w4.heap.size)) (i := 9) (v := ?_) (by kernel_rfl) (some 46) (by kernel_rfl) rfl (by kernel_rfl) (by kernel_rfl) (by kernel_rfl) (fun _ _ _ h => h) (by rfl) (fun w' hw' => ?_) rfl ?_
              rotate_left
              · try have g0 := (cells8 (heap_below HGD4.out (Gr.trans' HC.out hw'))).1
                try have g1 := (cells8 (heap_below HGD4.out (Gr.trans' HC.out hw'))).2.1
                try have g2 := (cells8 (heap_below HGD4.out (Gr.trans' HC.out hw'))).2.2.1
                try have g3 := (cells8 (heap_below HGD4.out (Gr.trans' HC.out hw'))).2.2.2.1
                try have g4 := (cells8 (heap_below HGD4.out (Gr.trans' HC.out hw'))).2.2.2.2.1
                try have g5 := (cells8 (heap_below HGD4.out (Gr.trans' HC.out hw'))).2.2.2.2.2.1
                try have g6 := (cells8 (heap_below HGD4.out (Gr.trans' HC.out hw'))).2.2.2.2.2.2.1
                try have g7 := (cells8 (heap_below HGD4.out (Gr.trans' HC.out hw'))).2.2.2.2.2.2.2
                go_simp
                with_reducible rfl
              simp only [Act.put, List.setIfInBounds_toArray, List.set_cons_zero, List.set_cons_succ]
              refine wpG_one (i := 11) rfl (by kernel_rfl) (by rfl) ?_
              refine wp_store_whole (none) 24 (.tmp 11) (.tmp 45) rfl gp [.int .i64 r1.1.c, .int .i64 r1.1.s, .slice A1 L1 C1] rfl rfl 24 [.int .i64 0, .int .i64 0, .slice none 0 0] HGP.out (by kernel_rfl) rfl ?o1 rfl ?_
              case o1 => intro u hu; simp only [List.mem_cons, List.not_mem_nil, or_false] at hu; rcases hu with rfl | rfl | rfl <;> rfl
              intro wn h5 ho
              refine ⟨ho.below _ _ HGPB.out (Below.refl _ _), ?_⟩
              have HPK : Hid (PkAt w4 wn (.pointer (some ⟨gp, 0, none⟩)) r1) := ⟨gp, A1, L1, C1, rfl, h5, OwnB.bs (only_own ho HQ.out HGP.out (by decide)), ho.below _ _ HGPB.out HC.out⟩
              clear h5 ho
              try simp only [Act.put, List.setIfInBounds_toArray, List.set_cons_zero, List.set_cons_succ]
              -- 12: slot 12
              refine wpG_take (preBelow (w4.heap.size)) (i := 12) (v := ?_) (by kernel_rfl) (some 12) (by kernel_rfl) rfl (by kernel_rfl) (by kernel_rfl) (by kernel_rfl) (fun _ _ _ h => h) (by rfl) (fun w' hw' => ?_) rfl ?_
              rotate_left
              · try have g0 := (cells8 (heap_below HGD4.out (Gr.trans' HC.out hw'))).1
                try have g1 := (cells8 (heap_below HGD4.out (Gr.trans' HC.out hw'))).2.1
                try have g2 := (cells8 (heap_below HGD4.out (Gr.trans' HC.out hw'))).2.2.1
                try have g3 := (cells8 (heap_below HGD4.out (Gr.trans' HC.out hw'))).2.2.2.1
                try have g4 := (cells8 (heap_below HGD4.out (Gr.trans' HC.out hw'))).2.2.2.2.1
                try have g5 := (cells8 (heap_below HGD4.out (Gr.trans' HC.out hw'))).2.2.2.2.2.1
                try have g6 := (cells8 (heap_below HGD4.out (Gr.trans' HC.out hw'))).2.2.2.2.2.2.1
                try have g7 := (cells8 (heap_below HGD4.out (Gr.trans' HC.out hw'))).2.2.2.2.2.2.2
                go_simp
                with_reducible rfl
              simp only [Act.put, List.setIfInBounds_toArray, List.set_cons_zero, List.set_cons_succ]
              refine wpG_done (by kernel_rfl) ?_ _
              go_wp2_with fail
              go_meet
              exact ⟨us, by rw [← HR1.out], by rw [← HR1.out]; exact HPK⟩
            · obtain ⟨wn, hrun, ho, hk⟩ := run_mark (P := Try.prog) wc 22 5 gc #[.int .u8 99, .int .u8 111, .int .u8 111, .int .u8 107, .int .u8 105, .int .u8 101] 6 6 HK.out Try.underlying22 Try.underlying5
              go_simp
              refine ⟨ho.below _ _ HGB.out (Below.refl _ _), ?_⟩
              try (have HGP' := Lib.hid (only_heap ho HGP.out HK.out (by decide)); clear HGP; have HGP := HGP'; clear HGP')
              try (have HOW' := Lib.hid (only_own ho HOW.out HK.out (by decide)); clear HOW; have HOW := HOW'; clear HOW')
              have HC' : Hid (Gr w4 wn) := ho.below _ _ HGB.out HC.out
              clear HC HK
              have HC := HC'
              have HK := Lib.hid hk
              clear HC' hk ho hrun
              obtain ⟨wc, hwc⟩ : ∃ x, x = wn := ⟨_, rfl⟩
              subst hwc
              try simp only [Act.put, List.setIfInBounds_toArray, List.set_cons_zero, List.set_cons_succ]
              refine wpG_one (i := 2) rfl (by kernel_rfl) (by rfl) ?_
              go_simp
              refine (NM.out wc HC.out).mono ?_
              rintro e wn ⟨a2, n2, c2, us, rfl, hst, how, hb⟩
              refine ⟨hb.mono (Below.size HC.out), ?_⟩
              try (have HGP' := Lib.hid (heap_below HGP.out hb); clear HGP; have HGP := HGP'; clear HGP')
              try (have HOW' := Lib.hid (ownsRow_below HOW.out hb); clear HOW; have HOW := HOW'; clear HOW')
              try (have HK' := Lib.hid (heap_below HK.out hb); clear HK; have HK := HK'; clear HK')
              try (have HQ' := Lib.hid (HQ.out.below hb); clear HQ; have HQ := HQ'; clear HQ')
              have HC' : Hid (Gr w4 wn) := Below.trans HC.out (Below.mono hb (Below.size HC.out))
              clear HC
              have HC := HC'
              clear HC'
              have HOW := Lib.hid how
              have HSMALL : Hid ((∀ s ∈ us, s.size ≤ 1600) ∧ n2 ≤ 70) := ⟨hst.small, hst.few⟩
              clear hst how hb
              obtain ⟨wc, hwc⟩ : ∃ x, x = wn := ⟨_, rfl⟩
              subst hwc
              try simp only [Act.put, List.setIfInBounds_toArray, List.set_cons_zero, List.set_cons_succ]
              refine wpG_one (i := 6) rfl (by kernel_rfl) (by rfl) ?_
              go_simp
              have hbk : Bs wc (.slice (some ⟨gc, 0, none⟩) 6 6) cook := mark_bs cook 6 rfl (by decide) (by rw [← cook_cells]; exact HK.out)
              refine (offer_any y a2 n2 c2 us d (some ⟨gc, 0, none⟩) 6 6 cook wc ⟨own_rd HOW.out, HSMALL.out.1, HSMALL.out.2⟩ (HD4.out.below HC.out) HDS.out hbk (by decide) HY.out).mono ?_
              rintro e wn ⟨A1, L1, C1, rfl, hown, hb⟩
              refine ⟨hb.mono (Below.size HC.out), ?_⟩
              obtain ⟨r1, hr1⟩ : ∃ r, r = offerP y us d.plain cook := ⟨_, rfl⟩
              rw [← hr1] at hown ⊢
              have HR1 := Lib.hid hr1
              have hq := OwnB.mono hown (Below.size HC.out)
              try (have HGP' := Lib.hid (heap_below HGP.out hb); clear HGP; have HGP := HGP'; clear HGP')
              try (have HOW' := Lib.hid (ownsRow_below HOW.out hb); clear HOW; have HOW := HOW'; clear HOW')
              try (have HK' := Lib.hid (heap_below HK.out hb); clear HK; have HK := HK'; clear HK')
              try (have HQ' := Lib.hid (HQ.out.below hb); clear HQ; have HQ := HQ'; clear HQ')
              have HC' : Hid (Gr w4 wn) := Below.trans HC.out (Below.mono hb (Below.size HC.out))
              clear HC
              have HC := HC'
              clear HC'
              have HQ := Lib.hid hq
              clear hown hb hbk hr1 hq
              obtain ⟨wc, hwc⟩ : ∃ x, x = wn := ⟨_, rfl⟩
              subst hwc
              try simp only [Act.put, List.setIfInBounds_toArray, List.set_cons_zero, List.set_cons_succ]
              -- 7: slot 37
              refine wpG_take (preBelow (w4.heap.size)) (i := 7) (v := ?_) (by kernel_rfl) (some 37) (by kernel_rfl) rfl (by kernel_rfl) (by kernel_rfl) (by kernel_rfl) (fun _ _ _ h => h) (by rfl) (fun w' hw' => ?_) rfl ?_
              rotate_left
              · try have g0 := (cells8 (heap_below HGD4.out (Gr.trans' HC.out hw'))).1
                try have g1 := (cells8 (heap_below HGD4.out (Gr.trans' HC.out hw'))).2.1
                try have g2 := (cells8 (heap_below HGD4.out (Gr.trans' HC.out hw'))).2.2.1
                try have g3 := (cells8 (heap_below HGD4.out (Gr.trans' HC.out hw'))).2.2.2.1
                try have g4 := (cells8 (heap_below HGD4.out (Gr.trans' HC.out hw'))).2.2.2.2.1
                try have g5 := (cells8 (heap_below HGD4.out (Gr.trans' HC.out hw'))).2.2.2.2.2.1
                try have g6 := (cells8 (heap_below HGD4.out (Gr.trans' HC.out hw'))).2.2.2.2.2.2.1
                try have g7 := (cells8 (heap_below HGD4.out (Gr.trans' HC.out hw'))).2.2.2.2.2.2.2
                go_simp
                with_reducible rfl
              simp only [Act.put, List.setIfInBounds_toArray, List.set_cons_zero, List.set_cons_succ]
              -- 8: slot 45
              refine wpG_take (preBelow (w4.heap.size)) (i := 8) (v := ?_) (by kernel_rfl) (some 45) (by kernel_rfl) rfl (by kernel_rfl) (by kernel_rfl) (by kernel_rfl) (fun _ _ _ h => h) (by rfl) (fun w' hw' => ?_) rfl ?_
              rotate_left
              · try have g0 := (cells8 (heap_below HGD4.out (Gr.trans' HC.out hw'))).1
                try have g1 := (cells8 (heap_below HGD4.out (Gr.trans' HC.out hw'))).2.1
                try have g2 := (cells8 (heap_below HGD4.out (Gr.trans' HC.out hw'))).2.2.1
                try have g3 := (cells8 (heap_below HGD4.out (Gr.trans' HC.out hw'))).2.2.2.1
                try have g4 := (cells8 (heap_below HGD4.out (Gr.trans' HC.out hw'))).2.2.2.2.1
                try have g5 := (cells8 (heap_below HGD4.out (Gr.trans' HC.out hw'))).2.2.2.2.2.1
                try have g6 := (cells8 (heap_below HGD4.out (Gr.trans' HC.out hw'))).2.2.2.2.2.2.1
                try have g7 := (cells8 (heap_below HGD4.out (Gr.trans' HC.out hw'))).2.2.2.2.2.2.2
                go_simp
                with_reducible rfl
              simp only [Act.put, List.setIfInBounds_toArray, List.set_cons_zero, List.set_cons_succ]
              -- 9: slot 46
              refine wpG_take (preBelow (w4.heap.size)) (i := 9) (v := ?_) (by kernel_rfl) (some 46) (by kernel_rfl) rfl (by kernel_rfl) (by kernel_rfl) (by kernel_rfl) (fun _ _ _ h => h) (by rfl) (fun w' hw' => ?_) rfl ?_
              rotate_left
              · try have g0 := (cells8 (heap_below HGD4.out (Gr.trans' HC.out hw'))).1
                try have g1 := (cells8 (heap_below HGD4.out (Gr.trans' HC.out hw'))).2.1
                try have g2 := (cells8 (heap_below HGD4.out (Gr.trans' HC.out hw'))).2.2.1
                try have g3 := (cells8 (heap_below HGD4.out (Gr.trans' HC.out hw'))).2.2.2.1
                try have g4 := (cells8 (heap_below HGD4.out (Gr.trans' HC.out hw'))).2.2.2.2.1
                try have g5 := (cells8 (heap_below HGD4.out (Gr.trans' HC.out hw'))).2.2.2.2.2.1
                try have g6 := (cells8 (heap_below HGD4.out (Gr.trans' HC.out hw'))).2.2.2.2.2.2.1
                try have g7 := (cells8 (heap_below HGD4.out (Gr.trans' HC.out hw'))).2.2.2.2.2.2.2
                go_simp
                with_reducible rfl
              simp only [Act.put, List.setIfInBounds_toArray, List.set_cons_zero, List.set_cons_succ]
              refine wpG_one (i := 11) rfl (by kernel_rfl) (by rfl) ?_
              refine wp_store_whole (none) 24 (.tmp 11) (.tmp 45) rfl gp [.int .i64 r1.1.c, .int .i64 r1.1.s, .slice A1 L1 C1] rfl rfl 24 [.int .i64 0, .int .i64 0, .slice none 0 0] HGP.out (by kernel_rfl) rfl ?o1 rfl ?_
              case o1 => intro u hu; simp only [List.mem_cons, List.not_mem_nil, or_false] at hu; rcases hu with rfl | rfl | rfl <;> rfl
              intro wn h5 ho
              refine ⟨ho.below _ _ HGPB.out (Below.refl _ _), ?_⟩
              have HPK : Hid (PkAt w4 wn (.pointer (some ⟨gp, 0, none⟩)) r1) := ⟨gp, A1, L1, C1, rfl, h5, OwnB.bs (only_own ho HQ.out HGP.out (by decide)), ho.below _ _ HGPB.out HC.out⟩
              clear h5 ho
              try simp only [Act.put, List.setIfInBounds_toArray, List.set_cons_zero, List.set_cons_succ]
              -- 12: slot 12
              refine wpG_take (preBelow (w4.heap.size)) (i := 12) (v := ?_) (by kernel_rfl) (some 12) (by kernel_rfl) rfl (by kernel_rfl) (by kernel_rfl) (by kernel_rfl) (fun _ _ _ h => h) (by rfl) (fun w' hw' => ?_) rfl ?_
              rotate_left
              · try have g0 := (cells8 (heap_below HGD4.out (Gr.trans' HC.out hw'))).1
                try have g1 := (cells8 (heap_below HGD4.out (Gr.trans' HC.out hw'))).2.1
                try have g2 := (cells8 (heap_below HGD4.out (Gr.trans' HC.out hw'))).2.2.1
                try have g3 := (cells8 (heap_below HGD4.out (Gr.trans' HC.out hw'))).2.2.2.1
                try have g4 := (cells8 (heap_below HGD4.out (Gr.trans' HC.out hw'))).2.2.2.2.1
                try have g5 := (cells8 (heap_below HGD4.out (Gr.trans' HC.out hw'))).2.2.2.2.2.1
                try have g6 := (cells8 (heap_below HGD4.out (Gr.trans' HC.out hw'))).2.2.2.2.2.2.1
                try have g7 := (cells8 (heap_below HGD4.out (Gr.trans' HC.out hw'))).2.2.2.2.2.2.2
                go_simp
                with_reducible rfl
              simp only [Act.put, List.setIfInBounds_toArray, List.set_cons_zero, List.set_cons_succ]
              refine wpG_done (by kernel_rfl) ?_ _
              go_wp2_with fail
              go_meet
              exact ⟨us, by rw [← HR1.out], by rw [← HR1.out]; exact HPK⟩
        · go_simp
          have hb : Below wc.heap.size wc (wc.alloc (.cells #[.int .i64 0, .int .i64 0, .slice none 0 0] 24)) := (Below.refl _ _).alloc (Nat.le_refl _) _
          refine ⟨hb.mono (Below.size HC.out), ?_⟩
          have hk : (wc.alloc (.cells #[.int .i64 0, .int .i64 0, .slice none 0 0] 24)).heap[wc.heap.size]? = some (.cells #[.int .i64 0, .int .i64 0, .slice none 0 0] 24 (0, 0)) := heap_alloc_last _ _
          have hgb : w4.heap.size ≤ wc.heap.size := Below.size HC.out
          generalize wc.alloc (.cells #[.int .i64 0, .int .i64 0, .slice none 0 0] 24) = wn at hb hk ⊢
          try (have HGP' := Lib.hid (heap_below HGP.out hb); clear HGP; have HGP := HGP'; clear HGP')
          try (have HOW' := Lib.hid (ownsRow_below HOW.out hb); clear HOW; have HOW := HOW'; clear HOW')
          try (have HK' := Lib.hid (heap_below HK.out hb); clear HK; have HK := HK'; clear HK')
          try (have HQ' := Lib.hid (HQ.out.below hb); clear HQ; have HQ := HQ'; clear HQ')
          have HC' : Hid (Gr w4 wn) := Below.trans HC.out (Below.mono hb (Below.size HC.out))
          clear HC
          have HC := HC'
          clear HC'
          obtain ⟨gp, hgp⟩ : ∃ g, g = wc.heap.size := ⟨_, rfl⟩
          rw [← hgp] at hk hgb ⊢
          have HGP := Lib.hid hk
          have HGPB := Lib.hid hgb
          clear hgp hb hk hgb
          obtain ⟨wc, hwc⟩ : ∃ x, x = wn := ⟨_, rfl⟩
          subst hwc
          try simp only [Act.put, List.setIfInBounds_toArray, List.set_cons_zero, List.set_cons_succ]
          refine wpG_two (i := 2) (j := 4) rfl rfl (by kernel_rfl) (by rfl) (by rfl) ?_ ?_
          · go_simp
            refine (NM.out wc HC.out).mono ?_
            rintro e wn ⟨a2, n2, c2, us, rfl, hst, how, hb⟩
            refine ⟨hb.mono (Below.size HC.out), ?_⟩
            try (have HGP' := Lib.hid (heap_below HGP.out hb); clear HGP; have HGP := HGP'; clear HGP')
            try (have HOW' := Lib.hid (ownsRow_below HOW.out hb); clear HOW; have HOW := HOW'; clear HOW')
            try (have HK' := Lib.hid (heap_below HK.out hb); clear HK; have HK := HK'; clear HK')
            try (have HQ' := Lib.hid (HQ.out.below hb); clear HQ; have HQ := HQ'; clear HQ')
            have HC' : Hid (Gr w4 wn) := Below.trans HC.out (Below.mono hb (Below.size HC.out))
            clear HC
            have HC := HC'
            clear HC'
            have HOW := Lib.hid how
            have HSMALL : Hid ((∀ s ∈ us, s.size ≤ 1600) ∧ n2 ≤ 70) := ⟨hst.small, hst.few⟩
            clear hst how hb
            obtain ⟨wc, hwc⟩ : ∃ x, x = wn := ⟨_, rfl⟩
            subst hwc
            try simp only [Act.put, List.setIfInBounds_toArray, List.set_cons_zero, List.set_cons_succ]
            refine wpG_one (i := 4) rfl (by kernel_rfl) (by rfl) ?_
            go_simp
            have hb : Below wc.heap.size wc (wc.alloc (.cells #[.int .u8 99, .int .u8 111, .int .u8 111, .int .u8 107, .int .u8 105, .int .u8 101] 5)) := (Below.refl _ _).alloc (Nat.le_refl _) _
            refine ⟨hb.mono (Below.size HC.out), ?_⟩
            have hk : (wc.alloc (.cells #[.int .u8 99, .int .u8 111, .int .u8 111, .int .u8 107, .int .u8 105, .int .u8 101] 5)).heap[wc.heap.size]? = some (.cells #[.int .u8 99, .int .u8 111, .int .u8 111, .int .u8 107, .int .u8 105, .int .u8 101] 5 (0, 0)) := heap_alloc_last _ _
            have hgb : w4.heap.size ≤ wc.heap.size := Below.size HC.out
            generalize wc.alloc (.cells #[.int .u8 99, .int .u8 111, .int .u8 111, .int .u8 107, .int .u8 105, .int .u8 101] 5) = wn at hb hk ⊢
            try (have HGP' := Lib.hid (heap_below HGP.out hb); clear HGP; have HGP := HGP'; clear HGP')
            try (have HOW' := Lib.hid (ownsRow_below HOW.out hb); clear HOW; have HOW := HOW'; clear HOW')
            try (have HK' := Lib.hid (heap_below HK.out hb); clear HK; have HK := HK'; clear HK')
            try (have HQ' := Lib.hid (HQ.out.below hb); clear HQ; have HQ := HQ'; clear HQ')
            have HC' : Hid (Gr w4 wn) := Below.trans HC.out (Below.mono hb (Below.size HC.out))
            clear HC
            have HC := HC'
            clear HC'
            obtain ⟨gc, hgc⟩ : ∃ g, g = wc.heap.size := ⟨_, rfl⟩
            rw [← hgc] at hk hgb ⊢
            have HK := Lib.hid hk
            have HGB := Lib.hid hgb
            clear hgc hb hk hgb
            obtain ⟨wc, hwc⟩ : ∃ x, x = wn := ⟨_, rfl⟩
            subst hwc
            try simp only [Act.put, List.setIfInBounds_toArray, List.set_cons_zero, List.set_cons_succ]
            refine wpG_one (i := 5) rfl (by kernel_rfl) (by rfl) ?_
            obtain ⟨wn, hrun, ho, hk⟩ := run_mark (P := Try.prog) wc 22 5 gc #[.int .u8 99, .int .u8 111, .int .u8 111, .int .u8 107, .int .u8 105, .int .u8 101] 6 6 HK.out Try.underlying22 Try.underlying5
            go_simp
            refine ⟨ho.below _ _ HGB.out (Below.refl _ _), ?_⟩
            try (have HGP' := Lib.hid (only_heap ho HGP.out HK.out (by decide)); clear HGP; have HGP := HGP'; clear HGP')
            try (have HOW' := Lib.hid (only_own ho HOW.out HK.out (by decide)); clear HOW; have HOW := HOW'; clear HOW')
            have HC' : Hid (Gr w4 wn) := ho.below _ _ HGB.out HC.out
            clear HC HK
            have HC := HC'
            have HK := Lib.hid hk
            clear HC' hk ho hrun
            obtain ⟨wc, hwc⟩ : ∃ x, x = wn := ⟨_, rfl⟩
            subst hwc
            try simp only [Act.put, List.setIfInBounds_toArray, List.set_cons_zero, List.set_cons_succ]
            refine wpG_one (i := 6) rfl (by kernel_rfl) (by rfl) ?_
            go_simp
            have hbk : Bs wc (.slice (some ⟨gc, 0, none⟩) 6 6) cook := mark_bs cook 6 rfl (by decide) (by rw [← cook_cells]; exact HK.out)
            refine (offer_any y a2 n2 c2 us d (some ⟨gc, 0, none⟩) 6 6 cook wc ⟨own_rd HOW.out, HSMALL.out.1, HSMALL.out.2⟩ (HD4.out.below HC.out) HDS.out hbk (by decide) HY.out).mono ?_
            rintro e wn ⟨A1, L1, C1, rfl, hown, hb⟩
            refine ⟨hb.mono (Below.size HC.out), ?_⟩
            obtain ⟨r1, hr1⟩ : ∃ r, r = offerP y us d.plain cook := ⟨_, rfl⟩
            rw [← hr1] at hown ⊢
            have HR1 := Lib.hid hr1
            have hq := OwnB.mono hown (Below.size HC.out)
            try (have HGP' := Lib.hid (heap_below HGP.out hb); clear HGP; have HGP := HGP'; clear HGP')
            try (have HOW' := Lib.hid (ownsRow_below HOW.out hb); clear HOW; have HOW := HOW'; clear HOW')
            try (have HK' := Lib.hid (heap_below HK.out hb); clear HK; have HK := HK'; clear HK')
            try (have HQ' := Lib.hid (HQ.out.below hb); clear HQ; have HQ := HQ'; clear HQ')
            have HC' : Hid (Gr w4 wn) := Below.trans HC.out (Below.mono hb (Below.size HC.out))
            clear HC
            have HC := HC'
            clear HC'
            have HQ := Lib.hid hq
            clear hown hb hbk hr1 hq
            obtain ⟨wc, hwc⟩ : ∃ x, x = wn := ⟨_, rfl⟩
            subst hwc
            try simp only [Act.put, List.setIfInBounds_toArray, List.set_cons_zero, List.set_cons_succ]
            -- 7: slot 37
            refine wpG_take (preBelow (w4.heap.size)) (i := 7) (v := ?_) (by kernel_rfl) (some 37) (by kernel_rfl) rfl (by kernel_rfl) (by kernel_rfl) (by kernel_rfl) (fun _ _ _ h => h) (by rfl) (fun w' hw' => ?_) rfl ?_
            rotate_left
            · try have g0 := (cells8 (heap_below HGD4.out (Gr.trans' HC.out hw'))).1
              try have g1 := (cells8 (heap_below HGD4.out (Gr.trans' HC.out hw'))).2.1
              try have g2 := (cells8 (heap_below HGD4.out (Gr.trans' HC.out hw'))).2.2.1
              try have g3 := (cells8 (heap_below HGD4.out (Gr.trans' HC.out hw'))).2.2.2.1
              try have g4 := (cells8 (heap_below HGD4.out (Gr.trans' HC.out hw'))).2.2.2.2.1
              try have g5 := (cells8 (heap_below HGD4.out (Gr.trans' HC.out hw'))).2.2.2.2.2.1
              try have g6 := (cells8 (heap_below HGD4.out (Gr.trans' HC.out hw'))).2.2.2.2.2.2.1
              try have g7 := (cells8 (heap_below HGD4.out (Gr.trans' HC.out hw'))).2.2.2.2.2.2.2
              go_simp
              with_reducible rfl
            simp only [Act.put, List.setIfInBounds_toArray, List.set_cons_zero, List.set_cons_succ]
            -- 8: slot 45
            refine wpG_take (preBelow (w4.heap.size)) (i := 8) (v := ?_) (by kernel_rfl) (some 45) (by kernel_rfl) rfl (by kernel_rfl) (by kernel_rfl) (by kernel_rfl) (fun _ _ _ h => h) (by rfl) (fun w' hw' => ?_) rfl ?_
            rotate_left
            · try have g0 := (cells8 (heap_below HGD4.out (Gr.trans' HC.out hw'))).1
              try have g1 := (cells8 (heap_below HGD4.out (Gr.trans' HC.out hw'))).2.1
              try have g2 := (cells8 (heap_below HGD4.out (Gr.trans' HC.out hw'))).2.2.1
              try have g3 := (cells8 (heap_below HGD4.out (Gr.trans' HC.out hw'))).2.2.2.1
              try have g4 := (cells8 (heap_below HGD4.out (Gr.trans' HC.out hw'))).2.2.2.2.1
              try have g5 := (cells8 (heap_below HGD4.out (Gr.trans' HC.out hw'))).2.2.2.2.2.1
              try have g6 := (cells8 (heap_below HGD4.out (Gr.trans' HC.out hw'))).2.2.2.2.2.2.1
              try have g7 := (cells8 (heap_below HGD4.out (Gr.trans' HC.out hw'))).2.2.2.2.2.2.2
              go_simp
              with_reducible rfl
            simp only [Act.put, List.setIfInBounds_toArray, List.set_cons_zero, List.set_cons_succ]
            -- 9: slot 46
            refine wpG_take (preBelow (w4.heap.size)) (i := 9) (v := ?_) (by kernel_rfl) (some 46) (by kernel_rfl) rfl (by kernel_rfl) (by kernel_rfl) (by kernel_rfl) (fun _ _ _ h => h) (by rfl) (fun w' hw' => ?_) rfl ?_
            rotate_left
            · try have g0 := (cells8 (heap_below HGD4.out (Gr.trans' HC.out hw'))).1
              try have g1 := (cells8 (heap_below HGD4.out (Gr.trans' HC.out hw'))).2.1
              try have g2 := (cells8 (heap_below HGD4.out (Gr.trans' HC.out hw'))).2.2.1
              try have g3 := (cells8 (heap_below HGD4.out (Gr.trans' HC.out hw'))).2.2.2.1
              try have g4 := (cells8 (heap_below HGD4.out (Gr.trans' HC.out hw'))).2.2.2.2.1
              try have g5 := (cells8 (heap_below HGD4.out (Gr.trans' HC.out hw'))).2.2.2.2.2.1
              try have g6 := (cells8 (heap_below HGD4.out (Gr.trans' HC.out hw'))).2.2.2.2.2.2.1
              try have g7 := (cells8 (heap_below HGD4.out (Gr.trans' HC.out hw'))).2.2.2.2.2.2.2
              go_simp
              with_reducible rfl
            simp only [Act.put, List.setIfInBounds_toArray, List.set_cons_zero, List.set_cons_succ]
            refine wpG_one (i := 11) rfl (by kernel_rfl) (by rfl) ?_
            refine wp_store_whole (none) 24 (.tmp 11) (.tmp 45) rfl gp [.int .i64 r1.1.c, .int .i64 r1.1.s, .slice A1 L1 C1] rfl rfl 24 [.int .i64 0, .int .i64 0, .slice none 0 0] HGP.out (by kernel_rfl) rfl ?o1 rfl ?_
            case o1 => intro u hu; simp only [List.mem_cons, List.not_mem_nil, or_false] at hu; rcases hu with rfl | rfl | rfl <;> rfl
            intro wn h5 ho
            refine ⟨ho.below _ _ HGPB.out (Below.refl _ _), ?_⟩
            have HPK : Hid (PkAt w4 wn (.pointer (some ⟨gp, 0, none⟩)) r1) := ⟨gp, A1, L1, C1, rfl, h5, OwnB.bs (only_own ho HQ.out HGP.out (by decide)), ho.below _ _ HGPB.out HC.out⟩
            clear h5 ho
            try simp only [Act.put, List.setIfInBounds_toArray, List.set_cons_zero, List.set_cons_succ]
            -- 12: slot 12
            refine wpG_take (preBelow (w4.heap.size)) (i := 12) (v := ?_) (by kernel_rfl) (some 12) (by kernel_rfl) rfl (by kernel_rfl) (by kernel_rfl) (by kernel_rfl) (fun _ _ _ h => h) (by rfl) (fun w' hw' => ?_) rfl ?_
            rotate_left
            · try have g0 := (cells8 (heap_below HGD4.out (Gr.trans' HC.out hw'))).1
              try have g1 := (cells8 (heap_below HGD4.out (Gr.trans' HC.out hw'))).2.1
              try have g2 := (cells8 (heap_below HGD4.out (Gr.trans' HC.out hw'))).2.2.1
              try have g3 := (cells8 (heap_below HGD4.out (Gr.trans' HC.out hw'))).2.2.2.1
              try have g4 := (cells8 (heap_below HGD4.out (Gr.trans' HC.out hw'))).2.2.2.2.1
              try have g5 := (cells8 (heap_below HGD4.out (Gr.trans' HC.out hw'))).2.2.2.2.2.1
              try have g6 := (cells8 (heap_below HGD4.out (Gr.trans' HC.out hw'))).2.2.2.2.2.2.1
              try have g7 := (cells8 (heap_below HGD4.out (Gr.trans' HC.out hw'))).2.2.2.2.2.2.2
              go_simp
              with_reducible rfl
            simp only [Act.put, List.setIfInBounds_toArray, List.set_cons_zero, List.set_cons_succ]
            refine wpG_done (by kernel_rfl) ?_ _
            go_wp2_with fail
            go_meet
            exact ⟨us, by rw [← HR1.out], by rw [← HR1.out]; exact HPK⟩
          · go_simp
            have hb : Below wc.heap.size wc (wc.alloc (.cells #[.int .u8 99, .int .u8 111, .int .u8 111, .int .u8 107, .int .u8 105, .int .u8 101] 5)) := (Below.refl _ _).alloc (Nat.le_refl _) _
            refine ⟨hb.mono (Below.size HC.out), ?_⟩
            have hk : (wc.alloc (.cells #[.int .u8 99, .int .u8 111, .int .u8 111, .int .u8 107, .int .u8 105, .int .u8 101] 5)).heap[wc.heap.size]? = some (.cells #[.int .u8 99, .int .u8 111, .int .u8 111, .int .u8 107, .int .u8 105, .int .u8 101] 5 (0, 0)) := heap_alloc_last _ _
            have hgb : w4.heap.size ≤ wc.heap.size := Below.size HC.out
            generalize wc.alloc (.cells #[.int .u8 99, .int .u8 111, .int .u8 111, .int .u8 107, .int .u8 105, .int .u8 101] 5) = wn at hb hk ⊢
            try (have HGP' := Lib.hid (heap_below HGP.out hb); clear HGP; have HGP := HGP'; clear HGP')
            try (have HOW' := Lib.hid (ownsRow_below HOW.out hb); clear HOW; have HOW := HOW'; clear HOW')
            try (have HK' := Lib.hid (heap_below HK.out hb); clear HK; have HK := HK'; clear HK')
            try (have HQ' := Lib.hid (HQ.out.below hb); clear HQ; have HQ := HQ'; clear HQ')
            have HC' : Hid (Gr w4 wn) := Below.trans HC.out (Below.mono hb (Below.size HC.out))
            clear HC
            have HC := HC'
            clear HC'
            obtain ⟨gc, hgc⟩ : ∃ g, g = wc.heap.size := ⟨_, rfl⟩
            rw [← hgc] at hk hgb ⊢
            have HK := Lib.hid hk
            have HGB := Lib.hid hgb
            clear hgc hb hk hgb
            obtain ⟨wc, hwc⟩ : ∃ x, x = wn := ⟨_, rfl⟩
            subst hwc
            try simp only [Act.put, List.setIfInBounds_toArray, List.set_cons_zero, List.set_cons_succ]
            refine wpG_two (i := 2) (j := 5) rfl rfl (by kernel_rfl) (by rfl) (by rfl) ?_ ?_
            · go_simp
              refine (NM.out wc HC.out).mono ?_
              rintro e wn ⟨a2, n2, c2, us, rfl, hst, how, hb⟩
              refine ⟨hb.mono (Below.size HC.out), ?_⟩
              try (have HGP' := Lib.hid (heap_below HGP.out hb); clear HGP; have HGP := HGP'; clear HGP')
              try (have HOW' := Lib.hid (ownsRow_below HOW.out hb); clear HOW; have HOW := HOW'; clear HOW')
              try (have HK' := Lib.hid (heap_below HK.out hb); clear HK; have HK := HK'; clear HK')
              try (have HQ' := Lib.hid (HQ.out.below hb); clear HQ; have HQ := HQ'; clear HQ')
              have HC' : Hid (Gr w4 wn) := Below.trans HC.out (Below.mono hb (Below.size HC.out))
              clear HC
              have HC := HC'
              clear HC'
              have HOW := Lib.hid how
              have HSMALL : Hid ((∀ s ∈ us, s.size ≤ 1600) ∧ n2 ≤ 70) := ⟨hst.small, hst.few⟩
              clear hst how hb
              obtain ⟨wc, hwc⟩ : ∃ x, x = wn := ⟨_, rfl⟩
              subst hwc
              try simp only [Act.put, List.setIfInBounds_toArray, List.set_cons_zero, List.set_cons_succ]
              refine wpG_one (i := 5) rfl (by kernel_rfl) (by rfl) ?_
              obtain ⟨wn, hrun, ho, hk⟩ := run_mark (P := Try.prog) wc 22 5 gc #[.int .u8 99, .int .u8 111, .int .u8 111, .int .u8 107, .int .u8 105, .int .u8 101] 6 6 HK.out Try.underlying22 Try.underlying5
              go_simp
              refine ⟨ho.below _ _ HGB.out (Below.refl _ _), ?_⟩
              try (have HGP' := Lib.hid (only_heap ho HGP.out HK.out (by decide)); clear HGP; have HGP := HGP'; clear HGP')
              try (have HOW' := Lib.hid (only_own ho HOW.out HK.out (by decide)); clear HOW; have HOW := HOW'; clear HOW')
              have HC' : Hid (Gr w4 wn) := ho.below _ _ HGB.out HC.out
              clear HC HK
              have HC := HC'
              have HK := Lib.hid hk
              clear HC' hk ho hrun
              obtain ⟨wc, hwc⟩ : ∃ x, x = wn := ⟨_, rfl⟩
              subst hwc
              try simp only [Act.put, List.setIfInBounds_toArray, List.set_cons_zero, List.set_cons_succ]
              refine wpG_one (i := 6) rfl (by kernel_rfl) (by rfl) ?_
              go_simp
              have hbk : Bs wc (.slice (some ⟨gc, 0, none⟩) 6 6) cook := mark_bs cook 6 rfl (by decide) (by rw [← cook_cells]; exact HK.out)
              refine (offer_any y a2 n2 c2 us d (some ⟨gc, 0, none⟩) 6 6 cook wc ⟨own_rd HOW.out, HSMALL.out.1, HSMALL.out.2⟩ (HD4.out.below HC.out) HDS.out hbk (by decide) HY.out).mono ?_
              rintro e wn ⟨A1, L1, C1, rfl, hown, hb⟩
              refine ⟨hb.mono (Below.size HC.out), ?_⟩
              obtain ⟨r1, hr1⟩ : ∃ r, r = offerP y us d.plain cook := ⟨_, rfl⟩
              rw [← hr1] at hown ⊢
              have HR1 := Lib.hid hr1
              have hq := OwnB.mono hown (Below.size HC.out)
              try (have HGP' := Lib.hid (heap_below HGP.out hb); clear HGP; have HGP := HGP'; clear HGP')
              try (have HOW' := Lib.hid (ownsRow_below HOW.out hb); clear HOW; have HOW := HOW'; clear HOW')
              try (have HK' := Lib.hid (heap_below HK.out hb); clear HK; have HK := HK'; clear HK')
              try (have HQ' := Lib.hid (HQ.out.below hb); clear HQ; have HQ := HQ'; clear HQ')
              have HC' : Hid (Gr w4 wn) := Below.trans HC.out (Below.mono hb (Below.size HC.out))
              clear HC
              have HC := HC'
              clear HC'
              have HQ := Lib.hid hq
              clear hown hb hbk hr1 hq
              obtain ⟨wc, hwc⟩ : ∃ x, x = wn := ⟨_, rfl⟩
              subst hwc
              try simp only [Act.put, List.setIfInBounds_toArray, List.set_cons_zero, List.set_cons_succ]
              -- 7: slot 37
              refine wpG_take (preBelow (w4.heap.size)) (i := 7) (v := ?_) (by kernel_rfl) (some 37) (by kernel_rfl) rfl (by kernel_rfl) (by kernel_rfl) (by kernel_rfl) (fun _ _ _ h => h) (by rfl) (fun w' hw' => ?_) rfl ?_
              rotate_left
              · try have g0 := (cells8 (heap_below HGD4.out (Gr.trans' HC.out hw'))).1
                try have g1 := (cells8 (heap_below HGD4.out (Gr.trans' HC.out hw'))).2.1
                try have g2 := (cells8 (heap_below HGD4.out (Gr.trans' HC.out hw'))).2.2.1
                try have g3 := (cells8 (heap_below HGD4.out (Gr.trans' HC.out hw'))).2.2.2.1
                try have g4 := (cells8 (heap_below HGD4.out (Gr.trans' HC.out hw'))).2.2.2.2.1
                try have g5 := (cells8 (heap_below HGD4.out (Gr.trans' HC.out hw'))).2.2.2.2.2.1
                try have g6 := (cells8 (heap_below HGD4.out (Gr.trans' HC.out hw'))).2.2.2.2.2.2.1
                try have g7 := (cells8 (heap_below HGD4.out (Gr.trans' HC.out hw'))).2.2.2.2.2.2.2
                go_simp
                with_reducible rfl
              simp only [Act.put, List.setIfInBounds_toArray, List.set_cons_zero, List.set_cons_succ]
              -- 8: slot 45
              refine wpG_take (preBelow (w4.heap.size)) (i := 8) (v := ?_) (by kernel_rfl) (some 45) (by kernel_rfl) rfl (by kernel_rfl) (by kernel_rfl) (by kernel_rfl) (fun _ _ _ h => h) (by rfl) (fun w' hw' => ?_) rfl ?_
              rotate_left
              · try have g0 := (cells8 (heap_below HGD4.out (Gr.trans' HC.out hw'))).1
                try have g1 := (cells8 (heap_below HGD4.out (Gr.trans' HC.out hw'))).2.1
                try have g2 := (cells8 (heap_below HGD4.out (Gr.trans' HC.out hw'))).2.2.1
                try have g3 := (cells8 (heap_below HGD4.out (Gr.trans' HC.out hw'))).2.2.2.1
                try have g4 := (cells8 (heap_below HGD4.out (Gr.trans' HC.out hw'))).2.2.2.2.1
                try have g5 := (cells8 (heap_below HGD4.out (Gr.trans' HC.out hw'))).2.2.2.2.2.1
                try have g6 := (cells8 (heap_below HGD4.out (Gr.trans' HC.out hw'))).2.2.2.2.2.2.1
                try have g7 := (cells8 (heap_below HGD4.out (Gr.trans' HC.out hw'))).2.2.2.2.2.2.2
                go_simp
                with_reducible rfl
              simp only [Act.put, List.setIfInBounds_toArray, List.set_cons_zero, List.set_cons_succ]
              -- 9: slot 46
              refine wpG_take (preBelow (w4.heap.size)) (i := 9) (v := ?_) (by kernel_rfl) (some 46) (by kernel_rfl) rfl (by kernel_rfl) (by kernel_rfl) (by kernel_rfl) (fun _ _ _ h => h) (by rfl) (fun w' hw' => ?_) rfl ?_
              rotate_left
              · try have g0 := (cells8 (heap_below HGD4.out (Gr.trans' HC.out hw'))).1
                try have g1 := (cells8 (heap_below HGD4.out (Gr.trans' HC.out hw'))).2.1
                try have g2 := (cells8 (heap_below HGD4.out (Gr.trans' HC.out hw'))).2.2.1
                try have g3 := (cells8 (heap_below HGD4.out (Gr.trans' HC.out hw'))).2.2.2.1
                try have g4 := (cells8 (heap_below HGD4.out (Gr.trans' HC.out hw'))).2.2.2.2.1
                try have g5 := (cells8 (heap_below HGD4.out (Gr.trans' HC.out hw'))).2.2.2.2.2.1
                try have g6 := (cells8 (heap_below HGD4.out (Gr.trans' HC.out hw'))).2.2.2.2.2.2.1
                try have g7 := (cells8 (heap_below HGD4.out (Gr.trans' HC.out hw'))).2.2.2.2.2.2.2
                go_simp
                with_reducible rfl
              simp only [Act.put, List.setIfInBounds_toArray, List.set_cons_zero, List.set_cons_succ]
              refine wpG_one (i := 11) rfl (by kernel_rfl) (by rfl) ?_
              refine wp_store_whole (none) 24 (.tmp 11) (.tmp 45) rfl gp [.int .i64 r1.1.c, .int .i64 r1.1.s, .slice A1 L1 C1] rfl rfl 24 [.int .i64 0, .int .i64 0, .slice none 0 0] HGP.out (by kernel_rfl) rfl ?o1 rfl ?_
              case o1 => intro u hu; simp only [List.mem_cons, List.not_mem_nil, or_false] at hu; rcases hu with rfl | rfl | rfl <;> rfl
              intro wn h5 ho
              refine ⟨ho.below _ _ HGPB.out (Below.refl _ _), ?_⟩
              have HPK : Hid (PkAt w4 wn (.pointer (some ⟨gp, 0, none⟩)) r1) := ⟨gp, A1, L1, C1, rfl, h5, OwnB.bs (only_own ho HQ.out HGP.out (by decide)), ho.below _ _ HGPB.out HC.out⟩
              clear h5 ho
              try simp only [Act.put, List.setIfInBounds_toArray, List.set_cons_zero, List.set_cons_succ]
              -- 12: slot 12
              refine wpG_take (preBelow (w4.heap.size)) (i := 12) (v := ?_) (by kernel_rfl) (some 12) (by kernel_rfl) rfl (by kernel_rfl) (by kernel_rfl) (by kernel_rfl) (fun _ _ _ h => h) (by rfl) (fun w' hw' => ?_) rfl ?_
              rotate_left
              · try have g0 := (cells8 (heap_below HGD4.out (Gr.trans' HC.out hw'))).1
                try have g1 := (cells8 (heap_below HGD4.out (Gr.trans' HC.out hw'))).2.1
                try have g2 := (cells8 (heap_below HGD4.out (Gr.trans' HC.out hw'))).2.2.1
                try have g3 := (cells8 (heap_below HGD4.out (Gr.trans' HC.out hw'))).2.2.2.1
                try have g4 := (cells8 (heap_below HGD4.out (Gr.trans' HC.out hw'))).2.2.2.2.1
                try have g5 := (cells8 (heap_below HGD4.out (Gr.trans' HC.out hw'))).2.2.2.2.2.1
                try have g6 := (cells8 (heap_below HGD4.out (Gr.trans' HC.out hw'))).2.2.2.2.2.2.1
                try have g7 := (cells8 (heap_below HGD4.out (Gr.trans' HC.out hw'))).2.2.2.2.2.2.2
                go_simp
                with_reducible rfl
              simp only [Act.put, List.setIfInBounds_toArray, List.set_cons_zero, List.set_cons_succ]
              refine wpG_done (by kernel_rfl) ?_ _
              go_wp2_with fail
              go_meet
              exact ⟨us, by rw [← HR1.out], by rw [← HR1.out]; exact HPK⟩
            · obtain ⟨wn, hrun, ho, hk⟩ := run_mark (P := Try.prog) wc 22 5 gc #[.int .u8 99, .int .u8 111, .int .u8 111, .int .u8 107, .int .u8 105, .int .u8 101] 6 6 HK.out Try.underlying22 Try.underlying5
              go_simp
              refine ⟨ho.below _ _ HGB.out (Below.refl _ _), ?_⟩
              try (have HGP' := Lib.hid (only_heap ho HGP.out HK.out (by decide)); clear HGP; have HGP := HGP'; clear HGP')
              try (have HOW' := Lib.hid (only_own ho HOW.out HK.out (by decide)); clear HOW; have HOW := HOW'; clear HOW')
              have HC' : Hid (Gr w4 wn) := ho.below _ _ HGB.out HC.out
              clear HC HK
              have HC := HC'
              have HK := Lib.hid hk
              clear HC' hk ho hrun
              obtain ⟨wc, hwc⟩ : ∃ x, x = wn := ⟨_, rfl⟩
              subst hwc
              try simp only [Act.put, List.setIfInBounds_toArray, List.set_cons_zero, List.set_cons_succ]
              refine wpG_one (i := 2) rfl (by kernel_rfl) (by rfl) ?_
              go_simp
              refine (NM.out wc HC.out).mono ?_
              rintro e wn ⟨a2, n2, c2, us, rfl, hst, how, hb⟩
              refine ⟨hb.mono (Below.size HC.out), ?_⟩
              try (have HGP' := Lib.hid (heap_below HGP.out hb); clear HGP; have HGP := HGP'; clear HGP')
              try (have HOW' := Lib.hid (ownsRow_below HOW.out hb); clear HOW; have HOW := HOW'; clear HOW')
              try (have HK' := Lib.hid (heap_below HK.out hb); clear HK; have HK := HK'; clear HK')
              try (have HQ' := Lib.hid (HQ.out.below hb); clear HQ; have HQ := HQ'; clear HQ')
              have HC' : Hid (Gr w4 wn) := Below.trans HC.out (Below.mono hb (Below.size HC.out))
              clear HC
              have HC := HC'
              clear HC'
              have HOW := Lib.hid how
              have HSMALL : Hid ((∀ s ∈ us, s.size ≤ 1600) ∧ n2 ≤ 70) := ⟨hst.small, hst.few⟩
              clear hst how hb
              obtain ⟨wc, hwc⟩ : ∃ x, x = wn := ⟨_, rfl⟩
              subst hwc
              try simp only [Act.put, List.setIfInBounds_toArray, List.set_cons_zero, List.set_cons_succ]
              refine wpG_one (i := 6) rfl (by kernel_rfl) (by rfl) ?_
              go_simp
              have hbk : Bs wc (.slice (some ⟨gc, 0, none⟩) 6 6) cook := mark_bs cook 6 rfl (by decide) (by rw [← cook_cells]; exact HK.out)
              refine (offer_any y a2 n2 c2 us d (some ⟨gc, 0, none⟩) 6 6 cook wc ⟨own_rd HOW.out, HSMALL.out.1, HSMALL.out.2⟩ (HD4.out.below HC.out) HDS.out hbk (by decide) HY.out).mono ?_
              rintro e wn ⟨A1, L1, C1, rfl, hown, hb⟩
              refine ⟨hb.mono (Below.size HC.out), ?_⟩
              obtain ⟨r1, hr1⟩ : ∃ r, r = offerP y us d.plain cook := ⟨_, rfl⟩
              rw [← hr1] at hown ⊢
              have HR1 := Lib.hid hr1
              have hq := OwnB.mono hown (Below.size HC.out)
              try (have HGP' := Lib.hid (heap_below HGP.out hb); clear HGP; have HGP := HGP'; clear HGP')
              try (have HOW' := Lib.hid (ownsRow_below HOW.out hb); clear HOW; have HOW := HOW'; clear HOW')
              try (have HK' := Lib.hid (heap_below HK.out hb); clear HK; have HK := HK'; clear HK')
              try (have HQ' := Lib.hid (HQ.out.below hb); clear HQ; have HQ := HQ'; clear HQ')
              have HC' : Hid (Gr w4 wn) := Below.trans HC.out (Below.mono hb (Below.size HC.out))
              clear HC
              have HC := HC'
              clear HC'
              have HQ := Lib.hid hq
              clear hown hb hbk hr1 hq
              obtain ⟨wc, hwc⟩ : ∃ x, x = wn := ⟨_, rfl⟩
              subst hwc
              try simp only [Act.put, List.setIfInBounds_toArray, List.set_cons_zero, List.set_cons_succ]
              -- 7: slot 37
              refine wpG_take (preBelow (w4.heap.size)) (i := 7) (v := ?_) (by kernel_rfl) (some 37) (by kernel_rfl) rfl (by kernel_rfl) (by kernel_rfl) (by kernel_rfl) (fun _ _ _ h => h) (by rfl) (fun w' hw' => ?_) rfl ?_
              rotate_left
              · try have g0 := (cells8 (heap_below HGD4.out (Gr.trans' HC.out hw'))).1
                try have g1 := (cells8 (heap_below HGD4.out (Gr.trans' HC.out hw'))).2.1
                try have g2 := (cells8 (heap_below HGD4.out (Gr.trans' HC.out hw'))).2.2.1
                try have g3 := (cells8 (heap_below HGD4.out (Gr.trans' HC.out hw'))).2.2.2.1
                try have g4 := (cells8 (heap_below HGD4.out (Gr.trans' HC.out hw'))).2.2.2.2.1
                try have g5 := (cells8 (heap_below HGD4.out (Gr.trans' HC.out hw'))).2.2.2.2.2.1
                try have g6 := (cells8 (heap_below HGD4.out (Gr.trans' HC.out hw'))).2.2.2.2.2.2.1
                try have g7 := (cells8 (heap_below HGD4.out (Gr.trans' HC.out hw'))).2.2.2.2.2.2.2
                go_simp
                with_reducible rfl
              simp only [Act.put, List.setIfInBounds_toArray, List.set_cons_zero, List.set_cons_succ]
              -- 8: slot 45
              refine wpG_take (preBelow (w4.heap.size)) (i := 8) (v := ?_) (by kernel_rfl) (some 45) (by kernel_rfl) rfl (by kernel_rfl) (by kernel_rfl) (by kernel_rfl) (fun _ _ _ h => h) (by rfl) (fun w' hw' => ?_) rfl ?_
              rotate_left
              · try have g0 := (cells8 (heap_below HGD4.out (Gr.trans' HC.out hw'))).1
                try have g1 := (cells8 (heap_below HGD4.out (Gr.trans' HC.out hw'))).2.1
                try have g2 := (cells8 (heap_below HGD4.out (Gr.trans' HC.out hw'))).2.2.1
                try have g3 := (cells8 (heap_below HGD4.out (Gr.trans' HC.out hw'))).2.2.2.1
                try have g4 := (cells8 (heap_below HGD4.out (Gr.trans' HC.out hw'))).2.2.2.2.1
                try have g5 := (cells8 (heap_below HGD4.out (Gr.trans' HC.out hw'))).2.2.2.2.2.1
                try have g6 := (cells8 (heap_below HGD4.out (Gr.trans' HC.out hw'))).2.2.2.2.2.2.1
                try have g7 := (cells8 (heap_below HGD4.out (Gr.trans' HC.out hw'))).2.2.2.2.2.2.2
                go_simp
                with_reducible rfl
              simp only [Act.put, List.setIfInBounds_toArray, List.set_cons_zero, List.set_cons_succ]
              -- 9: slot 46
              refine wpG_take (preBelow (w4.heap.size)) (i := 9) (v := ?_) (by kernel_rfl) (some 46) (by kernel_rfl) rfl (by kernel_rfl) (by kernel_rfl) (by kernel_rfl) (fun _ _ _ h => h) (by rfl) (fun w' hw' => ?_) rfl ?_
              rotate_left
              · try have g0 := (cells8 (heap_below HGD4.out (Gr.trans' HC.out hw'))).1
                try have g1 := (cells8 (heap_below HGD4.out (Gr.trans' HC.out hw'))).2.1
                try have g2 := (cells8 (heap_below HGD4.out (Gr.trans' HC.out hw'))).2.2.1
                try have g3 := (cells8 (heap_below HGD4.out (Gr.trans' HC.out hw'))).2.2.2.1
                try have g4 := (cells8 (heap_below HGD4.out (Gr.trans' HC.out hw'))).2.2.2.2.1
                try have g5 := (cells8 (heap_below HGD4.out (Gr.trans' HC.out hw'))).2.2.2.2.2.1
                try have g6 := (cells8 (heap_below HGD4.out (Gr.trans' HC.out hw'))).2.2.2.2.2.2.1
                try have g7 := (cells8 (heap_below HGD4.out (Gr.trans' HC.out hw'))).2.2.2.2.2.2.2
                go_simp
                with_reducible rfl
              simp only [Act.put, List.setIfInBounds_toArray, List.set_cons_zero, List.set_cons_succ]
              refine wpG_one (i := 11) rfl (by kernel_rfl) (by rfl) ?_
              refine wp_store_whole (none) 24 (.tmp 11) (.tmp 45) rfl gp [.int .i64 r1.1.c, .int .i64 r1.1.s, .slice A1 L1 C1] rfl rfl 24 [.int .i64 0, .int .i64 0, .slice none 0 0] HGP.out (by kernel_rfl) rfl ?o1 rfl ?_
              case o1 => intro u hu; simp only [List.mem_cons, List.not_mem_nil, or_false] at hu; rcases hu with rfl | rfl | rfl <;> rfl
              intro wn h5 ho
              refine ⟨ho.below _ _ HGPB.out (Below.refl _ _), ?_⟩
              have HPK : Hid (PkAt w4 wn (.pointer (some ⟨gp, 0, none⟩)) r1) := ⟨gp, A1, L1, C1, rfl, h5, OwnB.bs (only_own ho HQ.out HGP.out (by decide)), ho.below _ _ HGPB.out HC.out⟩
              clear h5 ho
              try simp only [Act.put, List.setIfInBounds_toArray, List.set_cons_zero, List.set_cons_succ]
              -- 12: slot 12
              refine wpG_take (preBelow (w4.heap.size)) (i := 12) (v := ?_) (by kernel_rfl) (some 12) (by kernel_rfl) rfl (by kernel_rfl) (by kernel_rfl) (by kernel_rfl) (fun _ _ _ h => h) (by rfl) (fun w' hw' => ?_) rfl ?_
              rotate_left
              · try have g0 := (cells8 (heap_below HGD4.out (Gr.trans' HC.out hw'))).1
                try have g1 := (cells8 (heap_below HGD4.out (Gr.trans' HC.out hw'))).2.1
                try have g2 := (cells8 (heap_below HGD4.out (Gr.trans' HC.out hw'))).2.2.1
                try have g3 := (cells8 (heap_below HGD4.out (Gr.trans' HC.out hw'))).2.2.2.1
                try have g4 := (cells8 (heap_below HGD4.out (Gr.trans' HC.out hw'))).2.2.2.2.1
                try have g5 := (cells8 (heap_below HGD4.out (Gr.trans' HC.out hw'))).2.2.2.2.2.1
                try have g6 := (cells8 (heap_below HGD4.out (Gr.trans' HC.out hw'))).2.2.2.2.2.2.1
                try have g7 := (cells8 (heap_below HGD4.out (Gr.trans' HC.out hw'))).2.2.2.2.2.2.2
                go_simp
                with_reducible rfl
              simp only [Act.put, List.setIfInBounds_toArray, List.set_cons_zero, List.set_cons_succ]
              refine wpG_done (by kernel_rfl) ?_ _
              go_wp2_with fail
              go_meet
              exact ⟨us, by rw [← HR1.out], by rw [← HR1.out]; exact HPK⟩
      case rest =>
        obtain ⟨us, hs12, hpk⟩ := hcut
        subst hs12
        obtain ⟨r1, hr1⟩ : ∃ r, r = offerP y us d.plain cook := ⟨_, rfl⟩
        have HT1 : Hid (r1.2 = 0 → d.plain.c = 9 ∧ r1.1.c = 7 ∧ r1.1.s = 0 ∧ Told d.plain r1.1) := by rw [hr1]; exact fun h => offer_told h
        rw [← hr1] at hpk ⊢
        clear hr1
        obtain ⟨g1, A1, L1, C1, hs11, hg1, hq1, hb1⟩ := hpk.out
        subst hs11
        have HG1 := Lib.hid hg1
        have HQ1 := Lib.hid hq1
        have HB5 := Lib.hid (HB4.out.trans (hb1.mono HB4.out.size))
        have HGD5 := Lib.hid (heap_below HGD4.out hb1)
        have HD5 := Lib.hid (HD4.out.below hb1)
        clear hpk hg1 hq1 hb1
        by_cases h1 : r1.2 = 0
        · obtain ⟨hc, e1, e2, ls, hdec, hu, hr⟩ := HT1.out h1
          have hg := HG1.out
          rw [e1, e2] at hg
          rw [h1]
          obtain ⟨p0, p1, p2⟩ := cells3 hg
          obtain ⟨k0, k1, k2, k3, k4, k5, k6, k7⟩ := cells8 HGD5.out
          have hlen : r1.1.l.length = L1 := by
            obtain ⟨_, _, _, e1, g1, _, _⟩ := HQ1.out.sl
            simp only [Value.slice.injEq] at e1
            rw [e1.2.1, g1]
          have TD := Lib.hid (told_any 7 0 A1 L1 C1 r1.1.l hlen d wc HQ1.out HD5.out ls hdec hu hr (by have := (dec_ok hdec).1; omega))
          have hcd : d.c = 9 := hc
          have ec : (d.c != 9) = false := by rw [hcd]; rfl
          clear hlen hdec hu hr e1 e2 hc hcd hg HT1 h1
          go_wp2_with fail
          refine TD.out.mono ?_
          rintro e u1 ⟨rfl, hb⟩
          have HB1u := Lib.hid (HB5.out.trans (hb.mono HB5.out.size))
          have HGD1u := Lib.hid (heap_below HGD5.out hb)
          have HD1u := Lib.hid (HD5.out.below hb)
          clear hb TD ec p0 p1 p2 k0 k1 k2 k3 k4 k5 k6 k7
          obtain ⟨k0, k1, k2, k3, k4, k5, k6, k7⟩ := cells8 HGD1u.out
          obtain ⟨r2, hr2⟩ : ∃ r, r = sessP d.plain id := ⟨_, rfl⟩
          have C2x := session_any d id u1 HD1u.out HDS.out
          rw [← hr2] at C2x
          have HC2 := Lib.hid C2x
          have HT2 : Hid (r2.2 = 0 → d.plain.c = 25 ∧ r2.1.c = 101 ∧ r2.1.s = id ∧ Told d.plain r2.1) := by rw [hr2]; exact fun h => sess_told h
          clear C2x hr2
          go_wp2_with fail
          refine HC2.out.mono ?_
          rintro e v2 ⟨A2, L2, C2, rfl, hown, hb⟩
          clear k0 k1 k2 k3 k4 k5 k6 k7 HC2
          by_cases h2 : r2.2 = 0
          · obtain ⟨hc, x1, x2, ls, hdec, hu, hr⟩ := HT2.out h2
            rw [x1, x2, h2]
            have hE : Below v2.heap.size v2 (v2.alloc (.cells #[.int .i64 101, .int .i64 id, .slice A2 L2 C2] 24)) := (Below.refl _ _).alloc (Nat.le_refl _) _
            have hB := hb.trans (hE.mono hb.size)
            have HB2 := Lib.hid (HB1u.out.trans (hB.mono HB1u.out.size))
            have HGD2 := Lib.hid (heap_below HGD1u.out hB)
            have HD2 := Lib.hid (HD1u.out.below hB)
            have hbs := hown.bs.below hE
            have hlen : r2.1.l.length = L2 := by
              obtain ⟨_, _, _, e1, g1, _, _⟩ := hbs.sl
              simp only [Value.slice.injEq] at e1
              rw [e1.2.1, g1]
            have TD := Lib.hid (told_any 101 id A2 L2 C2 r2.1.l hlen d _ hbs HD2.out ls hdec hu hr (by have := (dec_ok hdec).1; omega))
            have hcd : d.c = 25 := hc
            have ec : (d.c != 25) = false := by rw [hcd]; rfl
            have ec2 : (d.c == 25) = true := by rw [hcd]; rfl
            obtain ⟨k0, k1, k2, k3, k4, k5, k6, k7⟩ := cells8 HGD2.out
            clear hown hb hE hB hbs hlen hdec hu hr x1 x2 hc hcd HT2 h2
            go_wp2_with fail
            refine TD.out.mono ?_
            rintro e u2 ⟨rfl, hb⟩
            have HB2u := Lib.hid (HB2.out.trans (hb.mono HB2.out.size))
            have HGD2u := Lib.hid (heap_below HGD2.out hb)
            have HD2u := Lib.hid (HD2.out.below hb)
            clear hb TD ec ec2 k0 k1 k2 k3 k4 k5 k6 k7
            obtain ⟨k0, k1, k2, k3, k4, k5, k6, k7⟩ := cells8 HGD2u.out
            obtain ⟨r3, hr3⟩ : ∃ r, r = refP d.plain 514 ⟨#[102, 117, 108, 108]⟩ := ⟨_, rfl⟩
            have C3x := refuse_any d 514 ⟨#[102, 117, 108, 108]⟩ u2 HD2u.out HDS.out (by decide)
            rw [← hr3] at C3x
            have HC3 := Lib.hid C3x
            have HT3 : Hid (r3.2 = 0 → d.plain.c = 25 ∧ r3.1.c = 101 ∧ r3.1.s = 0 ∧ Told d.plain r3.1) := by rw [hr3]; exact fun h => ref_told h
            clear C3x hr3
            go_wp2_with fail
            refine HC3.out.mono ?_
            rintro e v3 ⟨A3, L3, C3, rfl, hown, hb⟩
            clear k0 k1 k2 k3 k4 k5 k6 k7 HC3
            by_cases h3 : r3.2 = 0
            · obtain ⟨hc, x1, x2, ls, hdec, hu, hr⟩ := HT3.out h3
              rw [x1, x2, h3]
              have hE : Below v3.heap.size v3 (v3.alloc (.cells #[.int .i64 101, .int .i64 0, .slice A3 L3 C3] 24)) := (Below.refl _ _).alloc (Nat.le_refl _) _
              have hB := hb.trans (hE.mono hb.size)
              have HB3 := Lib.hid (HB2u.out.trans (hB.mono HB2u.out.size))
              have HGD3 := Lib.hid (heap_below HGD2u.out hB)
              have HD3 := Lib.hid (HD2u.out.below hB)
              have hbs := hown.bs.below hE
              have hlen : r3.1.l.length = L3 := by
                obtain ⟨_, _, _, e1, g1, _, _⟩ := hbs.sl
                simp only [Value.slice.injEq] at e1
                rw [e1.2.1, g1]
              have TD := Lib.hid (told_any 101 0 A3 L3 C3 r3.1.l hlen d _ hbs HD3.out ls hdec hu hr (by have := (dec_ok hdec).1; omega))
              have hcd : d.c = 25 := hc
              have ec : (d.c != 25) = false := by rw [hcd]; rfl
              have ec2 : (d.c == 25) = true := by rw [hcd]; rfl
              obtain ⟨k0, k1, k2, k3, k4, k5, k6, k7⟩ := cells8 HGD3.out
              clear hown hb hE hB hbs hlen hdec hu hr x1 x2 hc hcd HT3 h3
              go_wp2_with fail
              refine TD.out.mono ?_
              rintro e u3 ⟨rfl, hb⟩
              have HB3u := Lib.hid (HB3.out.trans (hb.mono HB3.out.size))
              have HGD3u := Lib.hid (heap_below HGD3.out hb)
              have HD3u := Lib.hid (HD3.out.below hb)
              clear hb TD ec ec2 k0 k1 k2 k3 k4 k5 k6 k7
              go_wp2
              go_ret
              exact ⟨by simp, HB3u.out⟩
            · have hn : (r3.2 == 0) = false := by rw [beq_eq_false_iff_ne]; exact h3
              have hn2 : (r3.2 != 0) = true := by rw [bne_iff_ne]; exact h3
              have hE : Below v3.heap.size v3 (v3.alloc (.cells #[.int .i64 r3.1.c, .int .i64 r3.1.s, .slice A3 L3 C3] 24)) := (Below.refl _ _).alloc (Nat.le_refl _) _
              have hB := hb.trans (hE.mono hb.size)
              have HB3n := Lib.hid (HB2u.out.trans (hB.mono HB2u.out.size))
              have HGD3n := Lib.hid (heap_below HGD2u.out hB)
              have HD3n := Lib.hid (HD2u.out.below hB)
              clear hown hb hE hB HT3 h3
              go_wp2
              go_ret
              exact ⟨by simp, HB3n.out⟩
          · have hn : (r2.2 == 0) = false := by rw [beq_eq_false_iff_ne]; exact h2
            have hn2 : (r2.2 != 0) = true := by rw [bne_iff_ne]; exact h2
            have hE : Below v2.heap.size v2 (v2.alloc (.cells #[.int .i64 r2.1.c, .int .i64 r2.1.s, .slice A2 L2 C2] 24)) := (Below.refl _ _).alloc (Nat.le_refl _) _
            have hB := hb.trans (hE.mono hb.size)
            have HB2n := Lib.hid (HB1u.out.trans (hB.mono HB1u.out.size))
            have HGD2n := Lib.hid (heap_below HGD1u.out hB)
            have HD2n := Lib.hid (HD1u.out.below hB)
            clear hown hb hE hB HT2 h2
            obtain ⟨k0, k1, k2, k3, k4, k5, k6, k7⟩ := cells8 HGD2n.out
            obtain ⟨r3, hr3⟩ : ∃ r, r = refP d.plain 514 ⟨#[102, 117, 108, 108]⟩ := ⟨_, rfl⟩
            have C3x := refuse_any d 514 ⟨#[102, 117, 108, 108]⟩ (v2.alloc (.cells #[.int .i64 r2.1.c, .int .i64 r2.1.s, .slice A2 L2 C2] 24)) HD2n.out HDS.out (by decide)
            rw [← hr3] at C3x
            have HC3 := Lib.hid C3x
            have HT3 : Hid (r3.2 = 0 → d.plain.c = 25 ∧ r3.1.c = 101 ∧ r3.1.s = 0 ∧ Told d.plain r3.1) := by rw [hr3]; exact fun h => ref_told h
            clear C3x hr3
            go_wp2_with fail
            refine HC3.out.mono ?_
            rintro e v3 ⟨A3, L3, C3, rfl, hown, hb⟩
            clear k0 k1 k2 k3 k4 k5 k6 k7 HC3
            by_cases h3 : r3.2 = 0
            · obtain ⟨hc, x1, x2, ls, hdec, hu, hr⟩ := HT3.out h3
              rw [x1, x2, h3]
              have hE : Below v3.heap.size v3 (v3.alloc (.cells #[.int .i64 101, .int .i64 0, .slice A3 L3 C3] 24)) := (Below.refl _ _).alloc (Nat.le_refl _) _
              have hB := hb.trans (hE.mono hb.size)
              have HB3 := Lib.hid (HB2n.out.trans (hB.mono HB2n.out.size))
              have HGD3 := Lib.hid (heap_below HGD2n.out hB)
              have HD3 := Lib.hid (HD2n.out.below hB)
              have hbs := hown.bs.below hE
              have hlen : r3.1.l.length = L3 := by
                obtain ⟨_, _, _, e1, g1, _, _⟩ := hbs.sl
                simp only [Value.slice.injEq] at e1
                rw [e1.2.1, g1]
              have TD := Lib.hid (told_any 101 0 A3 L3 C3 r3.1.l hlen d _ hbs HD3.out ls hdec hu hr (by have := (dec_ok hdec).1; omega))
              have hcd : d.c = 25 := hc
              have ec : (d.c != 25) = false := by rw [hcd]; rfl
              have ec2 : (d.c == 25) = true := by rw [hcd]; rfl
              obtain ⟨k0, k1, k2, k3, k4, k5, k6, k7⟩ := cells8 HGD3.out
              clear hown hb hE hB hbs hlen hdec hu hr x1 x2 hc hcd HT3 h3
              go_wp2_with fail
              refine TD.out.mono ?_
              rintro e u3 ⟨rfl, hb⟩
              have HB3u := Lib.hid (HB3.out.trans (hb.mono HB3.out.size))
              have HGD3u := Lib.hid (heap_below HGD3.out hb)
              have HD3u := Lib.hid (HD3.out.below hb)
              clear hb TD ec ec2 k0 k1 k2 k3 k4 k5 k6 k7
              go_wp2
              go_ret
              exact ⟨by simp, HB3u.out⟩
            · have hn : (r3.2 == 0) = false := by rw [beq_eq_false_iff_ne]; exact h3
              have hn2 : (r3.2 != 0) = true := by rw [bne_iff_ne]; exact h3
              have hE : Below v3.heap.size v3 (v3.alloc (.cells #[.int .i64 r3.1.c, .int .i64 r3.1.s, .slice A3 L3 C3] 24)) := (Below.refl _ _).alloc (Nat.le_refl _) _
              have hB := hb.trans (hE.mono hb.size)
              have HB3n := Lib.hid (HB2n.out.trans (hB.mono HB2n.out.size))
              have HGD3n := Lib.hid (heap_below HGD2n.out hB)
              have HD3n := Lib.hid (HD2n.out.below hB)
              clear hown hb hE hB HT3 h3
              go_wp2
              go_ret
              exact ⟨by simp, HB3n.out⟩
        · have hn : (r1.2 == 0) = false := by rw [beq_eq_false_iff_ne]; exact h1
          clear HT1 h1
          obtain ⟨k0, k1, k2, k3, k4, k5, k6, k7⟩ := cells8 HGD5.out
          obtain ⟨r2, hr2⟩ : ∃ r, r = sessP d.plain id := ⟨_, rfl⟩
          have C2x := session_any d id wc HD5.out HDS.out
          rw [← hr2] at C2x
          have HC2 := Lib.hid C2x
          have HT2 : Hid (r2.2 = 0 → d.plain.c = 25 ∧ r2.1.c = 101 ∧ r2.1.s = id ∧ Told d.plain r2.1) := by rw [hr2]; exact fun h => sess_told h
          clear C2x hr2
          go_wp2_with fail
          refine HC2.out.mono ?_
          rintro e v2 ⟨A2, L2, C2, rfl, hown, hb⟩
          clear k0 k1 k2 k3 k4 k5 k6 k7 HC2
          by_cases h2 : r2.2 = 0
          · obtain ⟨hc, x1, x2, ls, hdec, hu, hr⟩ := HT2.out h2
            rw [x1, x2, h2]
            have hE : Below v2.heap.size v2 (v2.alloc (.cells #[.int .i64 101, .int .i64 id, .slice A2 L2 C2] 24)) := (Below.refl _ _).alloc (Nat.le_refl _) _
            have hB := hb.trans (hE.mono hb.size)
            have HB2 := Lib.hid (HB5.out.trans (hB.mono HB5.out.size))
            have HGD2 := Lib.hid (heap_below HGD5.out hB)
            have HD2 := Lib.hid (HD5.out.below hB)
            have hbs := hown.bs.below hE
            have hlen : r2.1.l.length = L2 := by
              obtain ⟨_, _, _, e1, g1, _, _⟩ := hbs.sl
              simp only [Value.slice.injEq] at e1
              rw [e1.2.1, g1]
            have TD := Lib.hid (told_any 101 id A2 L2 C2 r2.1.l hlen d _ hbs HD2.out ls hdec hu hr (by have := (dec_ok hdec).1; omega))
            have hcd : d.c = 25 := hc
            have ec : (d.c != 25) = false := by rw [hcd]; rfl
            have ec2 : (d.c == 25) = true := by rw [hcd]; rfl
            obtain ⟨k0, k1, k2, k3, k4, k5, k6, k7⟩ := cells8 HGD2.out
            clear hown hb hE hB hbs hlen hdec hu hr x1 x2 hc hcd HT2 h2
            go_wp2_with fail
            refine TD.out.mono ?_
            rintro e u2 ⟨rfl, hb⟩
            have HB2u := Lib.hid (HB2.out.trans (hb.mono HB2.out.size))
            have HGD2u := Lib.hid (heap_below HGD2.out hb)
            have HD2u := Lib.hid (HD2.out.below hb)
            clear hb TD ec ec2 k0 k1 k2 k3 k4 k5 k6 k7
            obtain ⟨k0, k1, k2, k3, k4, k5, k6, k7⟩ := cells8 HGD2u.out
            obtain ⟨r3, hr3⟩ : ∃ r, r = refP d.plain 514 ⟨#[102, 117, 108, 108]⟩ := ⟨_, rfl⟩
            have C3x := refuse_any d 514 ⟨#[102, 117, 108, 108]⟩ u2 HD2u.out HDS.out (by decide)
            rw [← hr3] at C3x
            have HC3 := Lib.hid C3x
            have HT3 : Hid (r3.2 = 0 → d.plain.c = 25 ∧ r3.1.c = 101 ∧ r3.1.s = 0 ∧ Told d.plain r3.1) := by rw [hr3]; exact fun h => ref_told h
            clear C3x hr3
            go_wp2_with fail
            refine HC3.out.mono ?_
            rintro e v3 ⟨A3, L3, C3, rfl, hown, hb⟩
            clear k0 k1 k2 k3 k4 k5 k6 k7 HC3
            by_cases h3 : r3.2 = 0
            · obtain ⟨hc, x1, x2, ls, hdec, hu, hr⟩ := HT3.out h3
              rw [x1, x2, h3]
              have hE : Below v3.heap.size v3 (v3.alloc (.cells #[.int .i64 101, .int .i64 0, .slice A3 L3 C3] 24)) := (Below.refl _ _).alloc (Nat.le_refl _) _
              have hB := hb.trans (hE.mono hb.size)
              have HB3 := Lib.hid (HB2u.out.trans (hB.mono HB2u.out.size))
              have HGD3 := Lib.hid (heap_below HGD2u.out hB)
              have HD3 := Lib.hid (HD2u.out.below hB)
              have hbs := hown.bs.below hE
              have hlen : r3.1.l.length = L3 := by
                obtain ⟨_, _, _, e1, g1, _, _⟩ := hbs.sl
                simp only [Value.slice.injEq] at e1
                rw [e1.2.1, g1]
              have TD := Lib.hid (told_any 101 0 A3 L3 C3 r3.1.l hlen d _ hbs HD3.out ls hdec hu hr (by have := (dec_ok hdec).1; omega))
              have hcd : d.c = 25 := hc
              have ec : (d.c != 25) = false := by rw [hcd]; rfl
              have ec2 : (d.c == 25) = true := by rw [hcd]; rfl
              obtain ⟨k0, k1, k2, k3, k4, k5, k6, k7⟩ := cells8 HGD3.out
              clear hown hb hE hB hbs hlen hdec hu hr x1 x2 hc hcd HT3 h3
              go_wp2_with fail
              refine TD.out.mono ?_
              rintro e u3 ⟨rfl, hb⟩
              have HB3u := Lib.hid (HB3.out.trans (hb.mono HB3.out.size))
              have HGD3u := Lib.hid (heap_below HGD3.out hb)
              have HD3u := Lib.hid (HD3.out.below hb)
              clear hb TD ec ec2 k0 k1 k2 k3 k4 k5 k6 k7
              go_wp2
              go_ret
              exact ⟨by simp, HB3u.out⟩
            · have hn : (r3.2 == 0) = false := by rw [beq_eq_false_iff_ne]; exact h3
              have hn2 : (r3.2 != 0) = true := by rw [bne_iff_ne]; exact h3
              have hE : Below v3.heap.size v3 (v3.alloc (.cells #[.int .i64 r3.1.c, .int .i64 r3.1.s, .slice A3 L3 C3] 24)) := (Below.refl _ _).alloc (Nat.le_refl _) _
              have hB := hb.trans (hE.mono hb.size)
              have HB3n := Lib.hid (HB2u.out.trans (hB.mono HB2u.out.size))
              have HGD3n := Lib.hid (heap_below HGD2u.out hB)
              have HD3n := Lib.hid (HD2u.out.below hB)
              clear hown hb hE hB HT3 h3
              go_wp2
              go_ret
              exact ⟨by simp, HB3n.out⟩
          · have hn : (r2.2 == 0) = false := by rw [beq_eq_false_iff_ne]; exact h2
            have hn2 : (r2.2 != 0) = true := by rw [bne_iff_ne]; exact h2
            have hE : Below v2.heap.size v2 (v2.alloc (.cells #[.int .i64 r2.1.c, .int .i64 r2.1.s, .slice A2 L2 C2] 24)) := (Below.refl _ _).alloc (Nat.le_refl _) _
            have hB := hb.trans (hE.mono hb.size)
            have HB2n := Lib.hid (HB5.out.trans (hB.mono HB5.out.size))
            have HGD2n := Lib.hid (heap_below HGD5.out hB)
            have HD2n := Lib.hid (HD5.out.below hB)
            clear hown hb hE hB HT2 h2
            obtain ⟨k0, k1, k2, k3, k4, k5, k6, k7⟩ := cells8 HGD2n.out
            obtain ⟨r3, hr3⟩ : ∃ r, r = refP d.plain 514 ⟨#[102, 117, 108, 108]⟩ := ⟨_, rfl⟩
            have C3x := refuse_any d 514 ⟨#[102, 117, 108, 108]⟩ (v2.alloc (.cells #[.int .i64 r2.1.c, .int .i64 r2.1.s, .slice A2 L2 C2] 24)) HD2n.out HDS.out (by decide)
            rw [← hr3] at C3x
            have HC3 := Lib.hid C3x
            have HT3 : Hid (r3.2 = 0 → d.plain.c = 25 ∧ r3.1.c = 101 ∧ r3.1.s = 0 ∧ Told d.plain r3.1) := by rw [hr3]; exact fun h => ref_told h
            clear C3x hr3
            go_wp2_with fail
            refine HC3.out.mono ?_
            rintro e v3 ⟨A3, L3, C3, rfl, hown, hb⟩
            clear k0 k1 k2 k3 k4 k5 k6 k7 HC3
            by_cases h3 : r3.2 = 0
            · obtain ⟨hc, x1, x2, ls, hdec, hu, hr⟩ := HT3.out h3
              rw [x1, x2, h3]
              have hE : Below v3.heap.size v3 (v3.alloc (.cells #[.int .i64 101, .int .i64 0, .slice A3 L3 C3] 24)) := (Below.refl _ _).alloc (Nat.le_refl _) _
              have hB := hb.trans (hE.mono hb.size)
              have HB3 := Lib.hid (HB2n.out.trans (hB.mono HB2n.out.size))
              have HGD3 := Lib.hid (heap_below HGD2n.out hB)
              have HD3 := Lib.hid (HD2n.out.below hB)
              have hbs := hown.bs.below hE
              have hlen : r3.1.l.length = L3 := by
                obtain ⟨_, _, _, e1, g1, _, _⟩ := hbs.sl
                simp only [Value.slice.injEq] at e1
                rw [e1.2.1, g1]
              have TD := Lib.hid (told_any 101 0 A3 L3 C3 r3.1.l hlen d _ hbs HD3.out ls hdec hu hr (by have := (dec_ok hdec).1; omega))
              have hcd : d.c = 25 := hc
              have ec : (d.c != 25) = false := by rw [hcd]; rfl
              have ec2 : (d.c == 25) = true := by rw [hcd]; rfl
              obtain ⟨k0, k1, k2, k3, k4, k5, k6, k7⟩ := cells8 HGD3.out
              clear hown hb hE hB hbs hlen hdec hu hr x1 x2 hc hcd HT3 h3
              go_wp2_with fail
              refine TD.out.mono ?_
              rintro e u3 ⟨rfl, hb⟩
              have HB3u := Lib.hid (HB3.out.trans (hb.mono HB3.out.size))
              have HGD3u := Lib.hid (heap_below HGD3.out hb)
              have HD3u := Lib.hid (HD3.out.below hb)
              clear hb TD ec ec2 k0 k1 k2 k3 k4 k5 k6 k7
              go_wp2
              go_ret
              exact ⟨by simp, HB3u.out⟩
            · have hn : (r3.2 == 0) = false := by rw [beq_eq_false_iff_ne]; exact h3
              have hn2 : (r3.2 != 0) = true := by rw [bne_iff_ne]; exact h3
              have hE : Below v3.heap.size v3 (v3.alloc (.cells #[.int .i64 r3.1.c, .int .i64 r3.1.s, .slice A3 L3 C3] 24)) := (Below.refl _ _).alloc (Nat.le_refl _) _
              have hB := hb.trans (hE.mono hb.size)
              have HB3n := Lib.hid (HB2n.out.trans (hB.mono HB2n.out.size))
              have HGD3n := Lib.hid (heap_below HGD2n.out hB)
              have HD3n := Lib.hid (HD2n.out.below hB)
              clear hown hb hE hB HT3 h3
              go_wp2
              go_ret
              exact ⟨by simp, HB3n.out⟩
    · subst hk01
      go_wp2
      go_ret
      exact ⟨rfl, HB4.out⟩

theorem walk (W : World) (C0 S0 : Int) (a0 : Option Addr) (n0 c0 : Nat) (l0 : List UInt8) (hn0 : l0.length = n0) (b0 : Bs W (.slice a0 n0 c0) l0) (Y : ByteArray) (hs : Y.size ≤ maxLen) (a1 : Option Addr) (n1 c1 : Nat) (ss : List ByteArray) (b1 : Rd W 1 (.slice a1 n1 c1) n1 (ss.map Value.string)) (id : Int) (wi : (Lit.int .i64 id).wf = true) :
    Calls Try.prog 7 #[.agg #[.int .i64 C0, .int .i64 S0, .slice a0 n0 c0], .string Y, .slice a1 n1 c1, .int .i64 id] W fun e w' => e = .returned (.bool true) ∧ Below W.heap.size W w' := by
  by_cases h : Y.size ≤ 200
  · exact rest W C0 S0 a0 n0 c0 l0 hn0 b0 Y (by omega) a1 n1 c1 ss b1 id Y (.inl ⟨h, rfl⟩)
  · exact rest W C0 S0 a0 n0 c0 l0 hn0 b0 (Y.extract 0 200) (by rw [ByteArray.size_extract]; omega) a1 n1 c1 ss b1 id Y (.inr ⟨h, rfl⟩)

theorem own : ownKnob Try.prog.godebug = none := by kernel_rfl
theorem laidOut : laidOutB Try.prog = true := by kernel_rfl
set_option maxRecDepth 100000 in
theorem lifted (os : Os) (started : os.Started) (H : Type) (enc : TypeId × Value → H) :
    ReturnsInHanded {} Try.checked os 7 .any (Rows.pppoeAgainSpec.pre6 enc Try.prog Try.f7 Rows.pppoeAgainRow.domain false) (Rows.pppoeAgainSpec.post enc Try.prog Try.f7 false true false false) := by
  refine returnsInHanded_of_change (C := Try.checked) own started (by kernel_rfl) Try.func7
    (ChangeSpec.witness6 (enc := enc) (C := Try.checked) false ⟨#[], #[.agg #[.int .i64 0, .int .i64 0, .slice none 0 0], .string ⟨#[]⟩, .slice none 0 0, .int .i64 0], []⟩ 8 (by kernel_rfl) (by kernel_rfl) (by kernel_rfl) (by kernel_rfl)) ?_
  intro W base args ds gs before hval0 hW hcnd _
  have hval : ∀ (j : Nat) t v, Try.f7.params[j]? = some t → args[j]? = some v → Value.okWide Try.prog W .any base t v := hval0
  have hW' := hW
  obtain ⟨p, q, hA0, hV, rfl, hfz, hnd⟩ := hW
  have hA : DataW.TrodAll enc Try.prog W 0 (fun _ => true) true Try.f7.params.toList args.toList ds p := hA0
  rw [Try.params7] at hA hval
  obtain ⟨v0, vs0, d0, ds0, p0, q0, hargs, rfl, rfl, h0, r0⟩ := trodAll_cons hA
  obtain ⟨v1, vs1, d1, ds1, p1, q1, rfl, rfl, rfl, h1, r1⟩ := trodAll_cons r0
  obtain ⟨v2, vs2, d2, ds2, p2, q2, rfl, rfl, rfl, h2, r2⟩ := trodAll_cons r1
  obtain ⟨v3, vs3, d3, ds3, p3, q3, rfl, rfl, rfl, h3, r3⟩ := trodAll_cons r2
  obtain ⟨rfl, rfl, rfl⟩ := trodAll_nil r3
  obtain rfl : args = #[v0, v1, v2, v3] := by cases args; simp_all
  obtain ⟨rfl, rfl⟩ := trodVars_none hV
  have k0 := h0
  have lt0 : ∀ x ∈ p0, x.block < W.heap.size := by obtain ⟨m, hm⟩ := k0; exact DataW.trod_lt m _ _ _ hm
  obtain ⟨C0, S0, a0, n0, c0, l0, rfl, hn0, b0⟩ := open_pppoe Try.underlying24 ⟨rfl, rfl, rfl⟩ Try.underlying3 Try.underlying3 Try.underlying22 Try.underlying5 ⟨by kernel_rfl, by kernel_rfl, by kernel_rfl, by kernel_rfl, by kernel_rfl⟩ (hval 0 24 v0 rfl rfl) h0
  have k1 := h1
  have lt1 : ∀ x ∈ p1, x.block < W.heap.size := by obtain ⟨m, hm⟩ := k1; exact DataW.trod_lt m _ _ _ hm
  obtain ⟨s1, rfl, rfl, rfl, hs1⟩ := open_string Try.underlying9 (hval 1 9 v1 rfl rfl) h1
  have k2 := h2
  have lt2 : ∀ x ∈ p2, x.block < W.heap.size := by obtain ⟨m, hm⟩ := k2; exact DataW.trod_lt m _ _ _ hm
  obtain ⟨a2, n2, c2, ss2, rfl, b2⟩ := open_texts Try.underlying34 Try.underlying9 (by kernel_rfl) (hval 2 34 v2 rfl rfl) h2
  have k3 := h3
  have lt3 : ∀ x ∈ p3, x.block < W.heap.size := by obtain ⟨m, hm⟩ := k3; exact DataW.trod_lt m _ _ _ hm
  obtain ⟨a3, rfl, rfl, rfl, w3⟩ := open_int Try.underlying3 (hval 3 3 v3 rfl rfl) h3
  clear hA0 hval0
  refine (walk W C0 S0 a0 n0 c0 l0 hn0 b0 s1 hs1 a2 n2 c2 ss2 b2 a3 w3).mono fun e W' ⟨he, bel⟩ => ?_
  subst he
  exact ⟨_, rfl, _, _, _, [], _, [], hW', trodAll_mk1 (shut_bool Try.underlying4 _), (trodAll_cons_mk (Below.trod laidOut (by kernel_rfl) (of_decide_eq_true (by kernel_rfl)) k0 bel lt0) (trodAll_cons_mk (Below.trod laidOut (by kernel_rfl) (of_decide_eq_true (by kernel_rfl)) k1 bel lt1) (trodAll_cons_mk (Below.trod laidOut (by kernel_rfl) (of_decide_eq_true (by kernel_rfl)) k2 bel lt2) (trodAll_cons_mk (Below.trod laidOut (by kernel_rfl) (of_decide_eq_true (by kernel_rfl)) k3 bel lt3) trodAll_mk0)))), rfl, bel.frame _, fun h => by cases h⟩
theorem over : Rows.pppoeAgainRow.holds Try.pinned (OpenSpec.ofChange Rows.pppoeAgainSpec) :=
  OpenClaim.holds_of_wide 7 Try.f7 rfl rfl rfl rfl rfl rfl rfl ⟨rfl, rfl, rfl, rfl, rfl⟩ rfl rfl rfl rfl rfl (by kernel_rfl) Try.func7 (by kernel_rfl)
    (of_decide_eq_true (by kernel_rfl)) (by unfold Func.isWrapper; first | (rw [if_pos (by decide +kernel)]; kernel_rfl) | (rw [if_neg (by decide +kernel)]; exact ⟨rfl, rfl⟩))
    (fun os started H enc _ => lifted os started H enc)
/-- The statement. -/
theorem proved : Rows.PppoeAgainSaid := over
end Go.Proofs.Ytcpeglljcipcbaa.pppoeAgain
