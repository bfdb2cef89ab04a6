/- NgQ NgR NgU NgS NgY NgYb NgT NgSb NgV -/
import Derived.Test.YtclplbapedmihaaGreatZNgA
import Derived.Test.YtclplbapedmihaaGreatZBase
namespace Go.Proofs.YtclplbapedmihaaGreat.Ng
set_option maxRecDepth 4000
open Go.RowKit
set_option linter.unusedVariables false
set_option linter.unusedSimpArgs false
theorem limit_any (k : Nat) (hk : k <= 4) (w : World) :
 Calls Tryz.prog 91 #[.int .i64 (k : Int)] w fun e w' => e = .returned (.int .i64 (lim (k : Int))) /\ w = w' := by
 go_enter Tryz.func91, Tryz.ntmps91
 go_wp2
 go_loopw [3, 4] (fun nv iv wr => ∃ j M : Nat, j <= k /\ M = 256 ^ j /\ iv = .int .i64 j /\ nv = .int .i64 (M : Nat) /\ w = wr) (fun _ iv _ => k - (intOf iv).toNat)
 case atStart => exact ⟨0, 1, Nat.zero_le _, rfl, rfl, rfl, rfl⟩
 case round =>
  obtain ⟨j, M, hj, hM, rfl, rfl, rfl⟩ := hrel;have hM4 : M <= 4294967296 := by rw [hM]; exact Nat.pow_le_pow_right (by decide) (show j <= 4 by omega)
  have HM := hd_ hM;clear hM
  by_cases hlt : j < k
  · go_wp2
    go_roundw
    case rel => exact ⟨j + 1, M * 256, by omega, by rw [HM.out, Nat.pow_succ], by go_num, by go_num, trivial⟩
    case measure => simp [intOf]; omega
  · obtain rfl : j = k := by omega
    have HL : Hid (lim (j : Int) = (M : Int)) := by
     show _ = _;unfold lim;rw [Int.toNat_natCast, HM.out];simp
    go_wp2
    go_ret
    exact ⟨by rw [HL.out]; rfl, rfl⟩
theorem below_any (n m : Int) (w : World) :
 Calls Tryz.prog 92 #[.int .i64 n, .int .i64 m] w fun e w' => e = .returned (.bool (decide (0 <= n /\ n < m))) /\ w = w' := by
 by_cases h1 : 0 <= n
 · go_enter Tryz.func92, Tryz.ntmps92
   go_wp2
   go_ret
   refine ⟨by simp [h1]; try (intros; omega), rfl⟩
 · go_enter Tryz.func92, Tryz.ntmps92
   go_wp2
   go_ret
   refine ⟨by simp [h1]; try (intros; omega), rfl⟩
set_option maxRecDepth 20000 in
theorem rtakes_any (r : Ru) (n : Int) (w : World) :
 Calls Tryz.prog 54 #[.agg #[.int .i64 r.typ, .int .i64 r.size, .int .i64 r.kind, .int .i64 r.low, .int .i64 r.high, .int .i64 r.good, .bool r.must], .int .i64 n] w fun e w' => e = .returned (.bool (takes r n)) /\ Below w.heap.size w w' := by
 have hal : Gr w (w.alloc (.cells #[.int .i64 r.typ, .int .i64 r.size, .int .i64 r.kind, .int .i64 r.low, .int .i64 r.high, .int .i64 r.good, .bool r.must] 101)) := (Gr.refl w).alloc _;have HAL := hd_ hal;obtain ⟨x0, x1, x2, x3, x4, x5, x6⟩ := cells7 (heap_alloc_last w (.cells #[.int .i64 r.typ, .int .i64 r.size, .int .i64 r.kind, .int .i64 r.low, .int .i64 r.high, .int .i64 r.good, .bool r.must] 101));clear hal
 by_cases h1 : r.kind = 1
 · have e : takes r n = true := by unfold takes; rw [if_pos h1]
   rw [e];have e1 : (r.kind == 1) = true := by simpa using h1
   clear h1 e;go_enter Tryz.func54, Tryz.ntmps54
   go_wp2
   go_ret
   exact ⟨rfl, HAL.out⟩
 have e1 : (r.kind == 1) = false := by simpa using h1
 by_cases h2 : r.kind = 2
 · have e : takes r n = decide (r.low <= n /\ n <= r.high) := by unfold takes; rw [if_neg h1, if_pos h2]
   rw [e];have e2 : (r.kind == 2) = true := by simpa using h2
   clear h1 h2 e
   by_cases hlo : r.low <= n
   · go_enter Tryz.func54, Tryz.ntmps54
     go_wp2
     go_ret
     exact ⟨by simp [hlo], HAL.out⟩
   · go_enter Tryz.func54, Tryz.ntmps54
     go_wp2
     go_ret
     exact ⟨by simp [hlo]; try (intros; omega), HAL.out⟩
 have e2 : (r.kind == 2) = false := by simpa using h2
 by_cases h3 : r.kind = 3
 · have e : takes r n = decide (n = r.good) := by unfold takes; rw [if_neg h1, if_neg h2, if_pos h3]
   rw [e];have e3 : (r.kind == 3) = true := by simpa using h3
   clear h1 h2 h3 e;go_enter Tryz.func54, Tryz.ntmps54
   go_wp2
   go_ret
   exact ⟨by simp [Bool.beq_eq_decide_eq], HAL.out⟩
 have e3 : (r.kind == 3) = false := by simpa using h3
 by_cases h4 : r.kind = 4
 · have e : takes r n = decide (n ≠ r.low) := by unfold takes; rw [if_neg h1, if_neg h2, if_neg h3, if_pos h4]
   rw [e];have e4 : (r.kind == 4) = true := by simpa using h4
   clear h1 h2 h3 h4 e;go_enter Tryz.func54, Tryz.ntmps54
   go_wp2
   go_ret
   exact ⟨by simp [bne, Bool.beq_eq_decide_eq], HAL.out⟩
 have e4 : (r.kind == 4) = false := by simpa using h4
 have e : takes r n = false := by unfold takes; rw [if_neg h1, if_neg h2, if_neg h3, if_neg h4]
 rw [e];clear h1 h2 h3 h4 e;go_enter Tryz.func54, Tryz.ntmps54
 go_wp2
 go_ret
 exact ⟨rfl, HAL.out⟩
set_option maxRecDepth 20000 in
set_option maxHeartbeats 2000000 in
theorem ris_any (r : Ru) (w : World) : Calls Tryz.prog 78 #[.agg #[.int .i64 r.typ, .int .i64 r.size, .int .i64 r.kind, .int .i64 r.low, .int .i64 r.high, .int .i64 r.good, .bool r.must]] w fun e w' => e = .returned (.bool (decide (isR r))) /\ Below w.heap.size w w' := by
 have hg : (w.alloc (.cells #[.int .i64 r.typ, .int .i64 r.size, .int .i64 r.kind, .int .i64 r.low, .int .i64 r.high, .int .i64 r.good, .bool r.must] 101)).heap[w.heap.size]? = some (.cells #[.int .i64 r.typ, .int .i64 r.size, .int .i64 r.kind, .int .i64 r.low, .int .i64 r.high, .int .i64 r.good, .bool r.must] 101) := heap_alloc_last _ _;have HB : Hid (Below w.heap.size w (w.alloc (.cells #[.int .i64 r.typ, .int .i64 r.size, .int .i64 r.kind, .int .i64 r.low, .int .i64 r.high, .int .i64 r.good, .bool r.must] 101))) := (Below.refl _ _).alloc (Nat.le_refl _) _;obtain ⟨k0, k1, k2, k3, k4, k5, k6⟩ := cells7 hg;clear hg;obtain ⟨bad, hbad⟩ : ∃ b, b = decide (¬ (1 <= r.typ /\ r.typ <= 255 /\ 0 <= r.size /\ r.size <= 4 /\ (r.size = 0 -> r.kind = 1))) := ⟨_, rfl⟩;have HBAD := hd_ hbad;clear hbad;go_enter Tryz.func78, Tryz.ntmps78
 go_upto_region 1 with fail
 generalize (w.alloc (.cells #[.int .i64 r.typ, .int .i64 r.size, .int .i64 r.kind, .int .i64 r.low, .int .i64 r.high, .int .i64 r.good, .bool r.must] 101)) = w1 at k0 k1 k2 k3 k4 k5 k6 HB ⊢;go_cut [31] (fun s wx => s = .bool bad /\ w1 = wx)
 case first =>
  by_cases h1 : r.typ < 1
  · obtain rfl : bad = true := by rw [HBAD.out]; exact decide_eq_true (by omega)
    go_wp2
    go_meet
    exact ⟨rfl, rfl⟩
  by_cases h2 : 255 < r.typ
  · obtain rfl : bad = true := by rw [HBAD.out]; exact decide_eq_true (by omega)
    go_wp2
    go_meet
    exact ⟨rfl, rfl⟩
  by_cases h3 : r.size < 0
  · obtain rfl : bad = true := by rw [HBAD.out]; exact decide_eq_true (by omega)
    go_wp2
    go_meet
    exact ⟨rfl, rfl⟩
  by_cases h4 : 4 < r.size
  · obtain rfl : bad = true := by rw [HBAD.out]; exact decide_eq_true (by omega)
    go_wp2
    go_meet
    exact ⟨rfl, rfl⟩
  by_cases h5 : r.size = 0
  · by_cases h6 : r.kind = 1
    · obtain rfl : bad = false := by rw [HBAD.out]; exact decide_eq_false (by omega)
      have e5 : (r.size == 0) = true := by simpa using h5
      have e6 : (r.kind != 1) = false := by simpa using h6
      clear h5 h6;go_wp2
      go_meet
      exact ⟨rfl, rfl⟩
    · obtain rfl : bad = true := by rw [HBAD.out]; exact decide_eq_true (by omega)
      have e5 : (r.size == 0) = true := by simpa using h5
      have e6 : (r.kind != 1) = true := by simpa using h6
      clear h5 h6;go_wp2
      go_meet
      exact ⟨rfl, rfl⟩
  · obtain rfl : bad = false := by rw [HBAD.out]; exact decide_eq_false (by omega)
    have e5 : (r.size == 0) = false := by simpa using h5
    clear h5;go_wp2
    go_meet
    exact ⟨rfl, rfl⟩
 case rest =>
  obtain ⟨rfl, rfl⟩ := hcut;cases bad with
  | true =>
   have h := of_decide_eq_true HBAD.out.symm;have HN : Hid (¬ isR r) := fun hr => h ⟨hr.1, hr.2.1, hr.2.2.1, hr.2.2.2.1, hr.2.2.2.2.1⟩
   clear h;go_wp2
   go_ret
   exact ⟨by rw [decide_eq_false HN.out]; rfl, HB.out⟩
  | false =>
   have h := of_decide_eq_false HBAD.out.symm;have HOK : Hid (1 <= r.typ /\ r.typ <= 255 /\ 0 <= r.size /\ r.size <= 4 /\ (r.size = 0 -> r.kind = 1)) := Classical.byContradiction h;clear h;obtain ⟨n, hn⟩ : ∃ n : Nat, r.size = (n : Int) := ⟨r.size.toNat, by have := HOK.out.2.2.1; omega⟩;have hn4 : n <= 4 := by have := HOK.out.2.2.2.1; omega
   have LM := hd_ (limit_any n hn4 w1);rw [<- hn] at LM;obtain ⟨M, hM⟩ : ∃ M, M = lim r.size := ⟨_, rfl⟩;rw [<- hM] at LM;have HM := hd_ hM;clear hn hn4 hM;have I3 := hd_ (below_any r.low M w1);have I4 := hd_ (below_any r.high M w1);have I5 := hd_ (below_any r.good M w1);have TK := hd_ (rtakes_any r r.good w1);go_wp2_with fail
   refine LM.out.mono ?_;rintro e w' ⟨rfl, rfl⟩
   by_cases h3 : 0 <= r.low /\ r.low < M
   · rw [decide_eq_true h3] at I3;have H3 := hd_ h3;clear h3
     by_cases h4 : 0 <= r.high /\ r.high < M
     · rw [decide_eq_true h4] at I4;have H4 := hd_ h4;clear h4
       by_cases h5 : 0 <= r.good /\ r.good < M
       · rw [decide_eq_true h5] at I5;have H5 := hd_ h5;clear h5
         by_cases h6 : r.kind = 2 /\ ¬ r.low <= r.high
         · have HN : Hid (¬ isR r) := fun h => h6.2 (h.2.2.2.2.2.2.2.2.2.2.2.1 h6.1)
           obtain ⟨h61, h62⟩ := h6;have e6 : (r.kind != 2) = false := by simpa using h61
           clear h61;go_wp2_with fail
           refine I3.out.mono ?_;rintro e w' ⟨rfl, rfl⟩;go_wp2_with fail
           refine I4.out.mono ?_;rintro e w' ⟨rfl, rfl⟩;go_wp2_with fail
           refine I5.out.mono ?_;rintro e w' ⟨rfl, rfl⟩;go_wp2
           go_ret
           exact ⟨by rw [decide_eq_false HN.out]; rfl, HB.out⟩
         · have H6 : Hid (r.kind = 2 -> r.low <= r.high) := fun hk => Classical.byContradiction fun h => h6 ⟨hk, h⟩
           have HE : Hid (decide (isR r) = takes r r.good) := by
            show _ = _;have h1 := HOK.out;have hm := HM.out;have a3 := H3.out;have a4 := H4.out;have a5 := H5.out;rw [hm] at a3 a4 a5;rw [Bool.eq_iff_iff, decide_eq_true_eq];exact ⟨fun h => h.2.2.2.2.2.2.2.2.2.2.2.2, fun h => ⟨h1.1, h1.2.1, h1.2.2.1, h1.2.2.2.1, h1.2.2.2.2, a3.1, a3.2, a4.1, a4.2, a5.1, a5.2, H6.out, h⟩⟩
           clear h6
           by_cases h7 : r.kind = 2
           · have e7 : (r.kind != 2) = false := by simpa using h7
             have h8 := H6.out h7;clear h7;go_wp2_with fail
             refine I3.out.mono ?_;rintro e w' ⟨rfl, rfl⟩;go_wp2_with fail
             refine I4.out.mono ?_;rintro e w' ⟨rfl, rfl⟩;go_wp2_with fail
             refine I5.out.mono ?_;rintro e w' ⟨rfl, rfl⟩;go_wp2_with fail
             refine TK.out.mono ?_;rintro e w' ⟨rfl, hb⟩;have HB2 := hd_ (HB.out.trans (hb.mono HB.out.size));clear hb;go_wp2
             go_ret
             exact ⟨by rw [HE.out]; rfl, HB2.out⟩
           · have e7 : (r.kind != 2) = true := by simpa using h7
             clear h7;go_wp2_with fail
             refine I3.out.mono ?_;rintro e w' ⟨rfl, rfl⟩;go_wp2_with fail
             refine I4.out.mono ?_;rintro e w' ⟨rfl, rfl⟩;go_wp2_with fail
             refine I5.out.mono ?_;rintro e w' ⟨rfl, rfl⟩;go_wp2_with fail
             refine TK.out.mono ?_;rintro e w' ⟨rfl, hb⟩;have HB2 := hd_ (HB.out.trans (hb.mono HB.out.size));clear hb;go_wp2
             go_ret
             exact ⟨by rw [HE.out]; rfl, HB2.out⟩
       · rw [decide_eq_false h5] at I5;have HN : Hid (¬ isR r) := fun h => h5 (by rw [HM.out]; exact ⟨h.2.2.2.2.2.2.2.2.2.1, h.2.2.2.2.2.2.2.2.2.2.1⟩)
         clear h5;go_wp2_with fail
         refine I3.out.mono ?_;rintro e w' ⟨rfl, rfl⟩;go_wp2_with fail
         refine I4.out.mono ?_;rintro e w' ⟨rfl, rfl⟩;go_wp2_with fail
         refine I5.out.mono ?_;rintro e w' ⟨rfl, rfl⟩;go_wp2
         go_ret
         exact ⟨by rw [decide_eq_false HN.out]; rfl, HB.out⟩
     · rw [decide_eq_false h4] at I4;have HN : Hid (¬ isR r) := fun h => h4 (by rw [HM.out]; exact ⟨h.2.2.2.2.2.2.2.1, h.2.2.2.2.2.2.2.2.1⟩)
       clear h4;go_wp2_with fail
       refine I3.out.mono ?_;rintro e w' ⟨rfl, rfl⟩;go_wp2_with fail
       refine I4.out.mono ?_;rintro e w' ⟨rfl, rfl⟩;go_wp2
       go_ret
       exact ⟨by rw [decide_eq_false HN.out]; rfl, HB.out⟩
   · rw [decide_eq_false h3] at I3;have HN : Hid (¬ isR r) := fun h => h3 (by rw [HM.out]; exact ⟨h.2.2.2.2.2.1, h.2.2.2.2.2.2.1⟩)
     clear h3;go_wp2_with fail
     refine I3.out.mono ?_;rintro e w' ⟨rfl, rfl⟩;go_wp2
     go_ret
     exact ⟨by rw [decide_eq_false HN.out]; rfl, HB.out⟩
end Go.Proofs.YtclplbapedmihaaGreat.Ng
namespace Go.Proofs.YtclplbapedmihaaGreat.Ng
set_option maxRecDepth 4000
open Go.RowKit O
set_option linter.unusedVariables false
set_option linter.unusedSimpArgs false
theorem cellB' {B b o : Nat} {w w' : World} {v : Value} (hb : Below B w w') (h : b < B) (hc : w.cell? ⟨b, o, none⟩ = some v) : w'.cell? ⟨b, o, none⟩ = some v := by
 rw [World.cell?_of_block (w := w) (hb.block b h)]; exact hc
set_option maxRecDepth 20000 in
set_option maxHeartbeats 4000000 in
theorem are_any (ao : Option Addr) (n c : Nat) (rs : List Ru) (w : World) (hr : RR w (.slice ao n c) n rs) :
 Calls Tryz.prog 48 #[.slice ao n c] w fun e w' => e = .returned (.bool (decide (areR rs))) /\ Below w.heap.size w w' := by
 have hl := hr.len;have HR := hd_ hr;clear hr
 by_cases h16 : n <= 16
 · go_enter Tryz.func48, Tryz.ntmps48
   go_wp2
   go_loopw [3, 4] (fun iv kv wr => ∃ (i : Nat) (lv : Value), i <= n /\ iv = .int .i64 (i : Int) /\ lv = kv /\ okTo rs i /\ Below w.heap.size w wr) (fun iv _ _ => n - (intOf iv).toNat)
   case atStart => exact ⟨0, _, Nat.zero_le _, rfl, rfl, fun j hj h => by omega, Below.refl _ _⟩
   case round =>
    obtain ⟨i, lv, hi, rfl, rfl, hok, hb⟩ := hrel;have HOK := hd_ hok;have HB := hd_ hb;have HBN := hd_ hb.size;clear hok hb
    by_cases hlt : i < n
    · obtain ⟨b, o, rfl, hbl, hc⟩ := HR.out.cells (by omega);have HCC := hd_ hc;obtain ⟨wA, hwA⟩ : ∃ x, x = wr := ⟨_, rfl⟩;subst hwA;obtain ⟨r, hr⟩ : ∃ r, r = rs[i] := ⟨_, rfl⟩;have hcw : ∀ w', Below w.heap.size w w' -> _ := fun w' hb => And.intro (cellB' hb hbl (hc i (by omega)).1) (And.intro (cellB' hb hbl (hc i (by omega)).2.1) (And.intro (cellB' hb hbl (hc i (by omega)).2.2.1) (And.intro (cellB' hb hbl (hc i (by omega)).2.2.2.1) (And.intro (cellB' hb hbl (hc i (by omega)).2.2.2.2.1) (And.intro (cellB' hb hbl (hc i (by omega)).2.2.2.2.2.1) (cellB' hb hbl (hc i (by omega)).2.2.2.2.2.2))))))
      rw [<- hr] at hcw;have HCW := hd_ hcw;obtain ⟨c0, c1, c2, c3, c4, c5, c6⟩ := hcw wA HB.out;have HRK := hd_ hr;have IS := hd_ (ris_any r wA);have hin : (i : Int) < (n : Int) := by omega
      clear hr hc hcw
      by_cases his : isR r
      · rw [decide_eq_true his] at IS;have HIS := hd_ his;clear his;go_wp2_with fail
        refine IS.out.mono ?_;rintro e w2 ⟨rfl, hb2⟩;have HB2 := hd_ (HB.out.trans (hb2.mono HBN.out));clear hb2 c0 c1 c2 c3 c4 c5 c6 IS;go_wp2
        go_loopw [4] (fun kv wr => ∃ k : Nat, k <= i /\ kv = .int .i64 (k : Int) /\ (∀ j (hj : j < k) (h2 : j < rs.length), rs[j].typ ≠ r.typ) /\ Below w.heap.size w wr) (fun kv _ => i - (intOf kv).toNat)
        case atStart => exact ⟨0, Nat.zero_le _, rfl, fun j hj => by omega, HB2.out⟩
        case round =>
         obtain ⟨k, hk, rfl, hne, hb3⟩ := hrel;have HNE := hd_ hne;have HB3 := hd_ hb3;clear hne hb3
         by_cases hlt2 : k < i
         · have HK0 := hd_ (HCC.out k (by omega)).1;have HI0 := hd_ (HCW.out w (Below.refl _ _)).1;obtain ⟨T, hT⟩ : ∃ T, T = rs[k].typ := ⟨_, rfl⟩;rw [<- hT] at HK0;have HTT := hd_ hT;have hkn : k < n := by omega
           have hkn2 : (k : Int) < (n : Int) := by omega
           have hki : (k : Int) < (i : Int) := by omega
           clear hT
           by_cases ht : T = r.typ
           · have HN : Hid (¬ areR rs) := fun h => by
              have := (((areR_iff rs).1 h).2 i (by omega) (by omega)).2 k hlt2;exact this (by rw [<- HTT.out, <- HRK.out, ht])
             have hte : (T == r.typ) = true := by simpa using ht
             clear ht;go_upto_region 11 with fail
             refine wp_region_G 11 Gr (by kernel_rfl) ?_;refine wpG_u preGr 0 (some 25) ?_;refine wpG_u preGr 1 (some 26) ?_;refine wpG_u preGr 2 (some 27) ?_ (hy := fun w' hw' => by
              try have g0 := cellB' (HB3.out.drew.trans (hw'.mono HB3.out.size)) hbl HK0.out
              try have g1 := cellB' (HB3.out.drew.trans (hw'.mono HB3.out.size)) hbl HI0.out
              go_simp;with_reducible rfl)
             refine wpG_u preGr 3 (some 28) ?_;refine wpG_u preGr 4 (some 29) ?_ (hy := fun w' hw' => by
              try have g0 := cellB' (HB3.out.drew.trans (hw'.mono HB3.out.size)) hbl HK0.out
              try have g1 := cellB' (HB3.out.drew.trans (hw'.mono HB3.out.size)) hbl HI0.out
              go_simp;with_reducible rfl)
             refine wpG_u preGr 5 (some 30) ?_;refine wpG_u preGr 6 (some 31) ?_;refine wpG_u preGr 7 (some 32) ?_ (hy := fun w' hw' => by
              try have g0 := cellB' (HB3.out.drew.trans (hw'.mono HB3.out.size)) hbl HK0.out
              try have g1 := cellB' (HB3.out.drew.trans (hw'.mono HB3.out.size)) hbl HI0.out
              go_simp;with_reducible rfl)
             refine wpG_u preGr 8 (some 33) ?_;refine wpG_u preGr 9 (some 34) ?_ (hy := fun w' hw' => by
              try have g0 := cellB' (HB3.out.drew.trans (hw'.mono HB3.out.size)) hbl HK0.out
              try have g1 := cellB' (HB3.out.drew.trans (hw'.mono HB3.out.size)) hbl HI0.out
              go_simp;with_reducible rfl)
             refine wpG_u preGr 10 (some 35) ?_;refine wpG_done (by kernel_rfl) ?_ _;go_wp2
             go_ret
             exact ⟨by rw [decide_eq_false HN.out]; rfl, HB3.out.drew⟩
           · have htf : (T == r.typ) = false := by simpa using ht
             have HT := hd_ ht;clear ht;go_upto_region 11 with fail
             refine wp_region_G 11 Gr (by kernel_rfl) ?_;refine wpG_u preGr 0 (some 25) ?_;refine wpG_u preGr 1 (some 26) ?_;refine wpG_u preGr 2 (some 27) ?_ (hy := fun w' hw' => by
              try have g0 := cellB' (HB3.out.drew.trans (hw'.mono HB3.out.size)) hbl HK0.out
              try have g1 := cellB' (HB3.out.drew.trans (hw'.mono HB3.out.size)) hbl HI0.out
              go_simp;with_reducible rfl)
             refine wpG_u preGr 3 (some 28) ?_;refine wpG_u preGr 4 (some 29) ?_ (hy := fun w' hw' => by
              try have g0 := cellB' (HB3.out.drew.trans (hw'.mono HB3.out.size)) hbl HK0.out
              try have g1 := cellB' (HB3.out.drew.trans (hw'.mono HB3.out.size)) hbl HI0.out
              go_simp;with_reducible rfl)
             refine wpG_u preGr 5 (some 30) ?_;refine wpG_u preGr 6 (some 31) ?_;refine wpG_u preGr 7 (some 32) ?_ (hy := fun w' hw' => by
              try have g0 := cellB' (HB3.out.drew.trans (hw'.mono HB3.out.size)) hbl HK0.out
              try have g1 := cellB' (HB3.out.drew.trans (hw'.mono HB3.out.size)) hbl HI0.out
              go_simp;with_reducible rfl)
             refine wpG_u preGr 8 (some 33) ?_;refine wpG_u preGr 9 (some 34) ?_ (hy := fun w' hw' => by
              try have g0 := cellB' (HB3.out.drew.trans (hw'.mono HB3.out.size)) hbl HK0.out
              try have g1 := cellB' (HB3.out.drew.trans (hw'.mono HB3.out.size)) hbl HI0.out
              go_simp;with_reducible rfl)
             refine wpG_u preGr 10 (some 35) ?_;refine wpG_done (by kernel_rfl) ?_ _;go_wp2
             go_roundw
             case rel =>
              have HN1 : ∀ j (hj : j < k + 1) (h2 : j < rs.length), rs[j].typ ≠ r.typ := fun j hj h2 => by
               by_cases e : j = k
               · subst e; rw [<- HTT.out]; exact HT.out
               · exact HNE.out j (by omega) h2
              first | exact ⟨k + 1, by omega, by go_num, HN1, HB3.out.drew⟩ | ((repeat apply Exists.intro); exact ⟨⟨k + 1, by omega, by go_num, HN1, HB3.out.drew⟩, rfl⟩)
             case measure => simp [intOf]; omega
         · obtain rfl : k = i := by omega
           have HOK2 : Hid (okTo rs (k + 1)) := HOK.out.next (by omega) (by rw [<- HRK.out]; exact HIS.out) (fun j hj => by rw [<- HRK.out]; exact HNE.out j hj (by omega));go_wp2
           go_roundw
           case rel =>
            first | exact ⟨k + 1, _, by omega, by go_num, rfl, HOK2.out, HB3.out⟩ | ((repeat apply Exists.intro); exact ⟨⟨k + 1, _, by omega, by go_num, rfl, HOK2.out, HB3.out⟩, rfl⟩)
           case measure => simp [intOf]; omega
      · rw [decide_eq_false his] at IS;have HN : Hid (¬ areR rs) := fun h => his (by
         have := (((areR_iff rs).1 h).2 i (by omega) (by omega)).1
         rwa [<- HRK.out] at this)
        clear his;go_wp2_with fail
        refine IS.out.mono ?_;rintro e w2 ⟨rfl, hb2⟩;have HB2 := hd_ (HB.out.trans (hb2.mono HBN.out));clear hb2;go_wp2
        go_ret
        exact ⟨by rw [decide_eq_false HN.out]; rfl, HB2.out⟩
    · obtain rfl : i = n := by omega
      have HA : Hid (areR rs) := (areR_iff rs).2 ⟨by omega, by rw [hl]; exact HOK.out⟩;go_wp2
      go_ret
      exact ⟨by rw [decide_eq_true HA.out]; rfl, HB.out⟩
 · have HN : Hid (¬ areR rs) := fun h => h16 (by rw [<- hl]; exact h.1)
   have hlt : (16 : Int) < (n : Int) := by omega
   clear h16;go_enter Tryz.func48, Tryz.ntmps48
   go_wp2
   go_ret
   exact ⟨by rw [decide_eq_false HN.out]; rfl, Below.refl _ _⟩
theorem ruleOf_at {rs : List Ru} {o : PT} (k : Nat) (h : k < rs.length) (h1 : fits rs[k] o = true) (h2 : ∀ j (hj : j < k), fits (rs[j]'(by omega)) o = false) : ruleOf rs o = some rs[k] := by
 unfold ruleOf;rw [List.find?_eq_some_iff_getElem];exact ⟨h1, k, h, rfl, fun j hj => by rw [h2 j hj]; rfl⟩
theorem ruleOf_no {rs : List Ru} {o : PT} (h2 : ∀ j (hj : j < rs.length), fits rs[j] o = false) : ruleOf rs o = none := by
 refine List.find?_eq_none.2 fun r hr => ?_
 obtain ⟨i, hi, rfl⟩ := List.mem_iff_getElem.1 hr;rw [h2 i hi]; simp
set_option maxRecDepth 20000 in
set_option maxHeartbeats 4000000 in
theorem rule_any (ao : Option Addr) (n c : Nat) (rs : List Ru) (T : Int) (A : Option Addr) (L C : Nat) (l : List UInt8) (hL : l.length = L) (w : World) (hr : RR w (.slice ao n c) n rs) :
 Calls Tryz.prog 52 #[.slice ao n c, .agg #[.int .i64 T, .slice A L C]] w fun e w' => ((∃ (k : Nat) (h : k < rs.length) (r : Ru), e = .returned (.int .i64 (k : Int)) /\ r = rs[k] /\ ruleOf rs (T, l) = some r) \/ (e = .returned (.int .i64 (-1)) /\ ruleOf rs (T, l) = none)) /\ Below w.heap.size w w' := by
 have hl := hr.len;have hsh := hr.sh;have HR := hd_ hr;have hn63 : n <= 9223372036854775807 := by have := hsh.1; have := hsh.2; unfold maxLen at *; omega
 have HAL : Hid (Gr w (w.alloc (.cells #[.int .i64 T, .slice A L C] 69))) := (Gr.refl w).alloc _;have HG0 : Hid ((w.alloc (.cells #[.int .i64 T, .slice A L C] 69)).heap[w.heap.size]? = some (.cells #[.int .i64 T, .slice A L C] 69)) := heap_alloc_last _ _;have HLL := hd_ hL;clear hr hsh hL;go_enter Tryz.func52, Tryz.ntmps52
 go_wp2
 go_loopw [5] (fun iv wr => ∃ k : Nat, k <= n /\ iv = .int .i64 k /\ (∀ j (hj : j < k) (h2 : j < rs.length), fits rs[j] (T, l) = false) /\ Below w.heap.size w wr /\ wr.heap[w.heap.size]? = some (.cells #[.int .i64 T, .slice A L C] 69)) (fun iv _ => n - (intOf iv).toNat)
 case atStart => exact ⟨0, Nat.zero_le _, rfl, fun j hj => by omega, HAL.out, HG0.out⟩
 case round =>
  clear HG0 HAL;obtain ⟨k, hk, rfl, hne, hb, hg⟩ := hrel;have HNE := hd_ hne;have HB := hd_ hb;have HG := hd_ hg;clear hne hb hg
  by_cases hlt : k < n
  · obtain ⟨b, o, rfl, hbl, hc⟩ := HR.out.cells (by omega);obtain ⟨r, hr⟩ : ∃ r, r = rs[k] := ⟨_, rfl⟩;have hc0 := (hc k (by omega)).1;have hc1 := (hc k (by omega)).2.1;rw [<- hr] at hc0 hc1;have HC0 := hd_ hc0;have HC1 := hd_ hc1;have HRK := hd_ hr;have hkn : k < n := hlt;have hkn2 : (k : Int) < (n : Int) := by omega
    clear hc hc0 hc1 hr;have HNX : Hid (fits r (T, l) = false -> ∀ j (hj : j < k + 1) (h2 : j < rs.length), fits rs[j] (T, l) = false) := fun h j hj h2 => by
     by_cases e : j = k
     · subst e; rw [<- HRK.out]; exact h
     · exact HNE.out j (by omega) h2
    by_cases ht : r.typ = T
    · by_cases hs : r.size = (L : Int)
      · have HF : Hid (ruleOf rs (T, l) = some r) := by
         show _ = _;rw [HRK.out];refine ruleOf_at k (by omega) ?_ (fun j hj => HNE.out j hj (by omega));rw [<- HRK.out];exact decide_eq_true ⟨ht, by rw [hs, HLL.out]⟩
        have e1 : (r.typ == T) = true := by simpa using ht
        have e2 : (r.size == (L : Int)) = true := by simpa using hs
        clear ht hs;go_upto_region 4 with fail
        refine wp_region_G 19 Gr (by kernel_rfl) ?_;refine wpG_u preGr 0 (some 12) ?_;refine wpG_u preGr 1 (some 13) ?_;refine wpG_u preGr 2 (some 14) ?_ (hy := fun w' hw' => by
         try have g0 := cellB' (HB.out.drew.trans (hw'.mono HB.out.size)) hbl HC0.out
         try have g1 := cellB' (HB.out.drew.trans (hw'.mono HB.out.size)) hbl HC1.out
         try have g2 := (copy_cells (heap_gr ((Gr.drew wr).trans hw') HG.out)).1
         try have g3 := (copy_cells (heap_gr ((Gr.drew wr).trans hw') HG.out)).2
         go_simp;with_reducible rfl)
        refine wpG_u preGr 3 (some 15) ?_;refine wpG_u preGr 4 (some 16) ?_ (hy := fun w' hw' => by
         try have g0 := cellB' (HB.out.drew.trans (hw'.mono HB.out.size)) hbl HC0.out
         try have g1 := cellB' (HB.out.drew.trans (hw'.mono HB.out.size)) hbl HC1.out
         try have g2 := (copy_cells (heap_gr ((Gr.drew wr).trans hw') HG.out)).1
         try have g3 := (copy_cells (heap_gr ((Gr.drew wr).trans hw') HG.out)).2
         go_simp;with_reducible rfl)
        refine wpG_u preGr 5 (some 17) ?_;refine wpG_u preGr 6 (some 18) ?_ (hy := fun w' hw' => by
         try have g0 := cellB' (HB.out.drew.trans (hw'.mono HB.out.size)) hbl HC0.out
         try have g1 := cellB' (HB.out.drew.trans (hw'.mono HB.out.size)) hbl HC1.out
         try have g2 := (copy_cells (heap_gr ((Gr.drew wr).trans hw') HG.out)).1
         try have g3 := (copy_cells (heap_gr ((Gr.drew wr).trans hw') HG.out)).2
         go_simp;with_reducible rfl)
        refine wpG_u preGr 7 (some 19) ?_;refine wpG_u preGr 8 (some 20) ?_;refine wpG_u preGr 9 (some 21) ?_;refine wpG_u preGr 10 (some 22) ?_;refine wpG_u preGr 11 (some 23) ?_ (hy := fun w' hw' => by
         try have g0 := cellB' (HB.out.drew.trans (hw'.mono HB.out.size)) hbl HC0.out
         try have g1 := cellB' (HB.out.drew.trans (hw'.mono HB.out.size)) hbl HC1.out
         try have g2 := (copy_cells (heap_gr ((Gr.drew wr).trans hw') HG.out)).1
         try have g3 := (copy_cells (heap_gr ((Gr.drew wr).trans hw') HG.out)).2
         go_simp;with_reducible rfl)
        refine wpG_u preGr 12 (some 24) ?_;refine wpG_u preGr 13 (some 25) ?_ (hy := fun w' hw' => by
         try have g0 := cellB' (HB.out.drew.trans (hw'.mono HB.out.size)) hbl HC0.out
         try have g1 := cellB' (HB.out.drew.trans (hw'.mono HB.out.size)) hbl HC1.out
         try have g2 := (copy_cells (heap_gr ((Gr.drew wr).trans hw') HG.out)).1
         try have g3 := (copy_cells (heap_gr ((Gr.drew wr).trans hw') HG.out)).2
         go_simp;with_reducible rfl)
        refine wpG_u preGr 14 (some 26) ?_;refine wpG_u preGr 15 (some 27) ?_ (hy := fun w' hw' => by
         try have g0 := cellB' (HB.out.drew.trans (hw'.mono HB.out.size)) hbl HC0.out
         try have g1 := cellB' (HB.out.drew.trans (hw'.mono HB.out.size)) hbl HC1.out
         try have g2 := (copy_cells (heap_gr ((Gr.drew wr).trans hw') HG.out)).1
         try have g3 := (copy_cells (heap_gr ((Gr.drew wr).trans hw') HG.out)).2
         go_simp;with_reducible rfl)
        refine wpG_u preGr 16 (some 28) ?_ (hy := fun w' hw' => by
         try have g0 := cellB' (HB.out.drew.trans (hw'.mono HB.out.size)) hbl HC0.out
         try have g1 := cellB' (HB.out.drew.trans (hw'.mono HB.out.size)) hbl HC1.out
         try have g2 := (copy_cells (heap_gr ((Gr.drew wr).trans hw') HG.out)).1
         try have g3 := (copy_cells (heap_gr ((Gr.drew wr).trans hw') HG.out)).2
         go_simp;with_reducible rfl)
        refine wpG_u preGr 17 (some 29) ?_;refine wpG_u preGr 18 (some 30) ?_;refine wpG_done (by kernel_rfl) ?_ _;go_wp2
        go_ret
        exact ⟨.inl ⟨k, by omega, r, rfl, HRK.out, HF.out⟩, HB.out.drew⟩
      · have HN := hd_ (HNX.out (decide_eq_false fun h => hs (by rw [h.2]; exact congrArg Int.ofNat HLL.out)));have e1 : (r.typ == T) = true := by simpa using ht
        have e2 : (r.size == (L : Int)) = false := by simpa using hs
        clear ht hs HNX;go_upto_region 4 with fail
        refine wp_region_G 19 Gr (by kernel_rfl) ?_;refine wpG_u preGr 0 (some 12) ?_;refine wpG_u preGr 1 (some 13) ?_;refine wpG_u preGr 2 (some 14) ?_ (hy := fun w' hw' => by
         try have g0 := cellB' (HB.out.drew.trans (hw'.mono HB.out.size)) hbl HC0.out
         try have g1 := cellB' (HB.out.drew.trans (hw'.mono HB.out.size)) hbl HC1.out
         try have g2 := (copy_cells (heap_gr ((Gr.drew wr).trans hw') HG.out)).1
         try have g3 := (copy_cells (heap_gr ((Gr.drew wr).trans hw') HG.out)).2
         go_simp;with_reducible rfl)
        refine wpG_u preGr 3 (some 15) ?_;refine wpG_u preGr 4 (some 16) ?_ (hy := fun w' hw' => by
         try have g0 := cellB' (HB.out.drew.trans (hw'.mono HB.out.size)) hbl HC0.out
         try have g1 := cellB' (HB.out.drew.trans (hw'.mono HB.out.size)) hbl HC1.out
         try have g2 := (copy_cells (heap_gr ((Gr.drew wr).trans hw') HG.out)).1
         try have g3 := (copy_cells (heap_gr ((Gr.drew wr).trans hw') HG.out)).2
         go_simp;with_reducible rfl)
        refine wpG_u preGr 5 (some 17) ?_;refine wpG_u preGr 6 (some 18) ?_ (hy := fun w' hw' => by
         try have g0 := cellB' (HB.out.drew.trans (hw'.mono HB.out.size)) hbl HC0.out
         try have g1 := cellB' (HB.out.drew.trans (hw'.mono HB.out.size)) hbl HC1.out
         try have g2 := (copy_cells (heap_gr ((Gr.drew wr).trans hw') HG.out)).1
         try have g3 := (copy_cells (heap_gr ((Gr.drew wr).trans hw') HG.out)).2
         go_simp;with_reducible rfl)
        refine wpG_u preGr 7 (some 19) ?_;refine wpG_u preGr 8 (some 20) ?_;refine wpG_u preGr 9 (some 21) ?_;refine wpG_u preGr 10 (some 22) ?_;refine wpG_u preGr 11 (some 23) ?_ (hy := fun w' hw' => by
         try have g0 := cellB' (HB.out.drew.trans (hw'.mono HB.out.size)) hbl HC0.out
         try have g1 := cellB' (HB.out.drew.trans (hw'.mono HB.out.size)) hbl HC1.out
         try have g2 := (copy_cells (heap_gr ((Gr.drew wr).trans hw') HG.out)).1
         try have g3 := (copy_cells (heap_gr ((Gr.drew wr).trans hw') HG.out)).2
         go_simp;with_reducible rfl)
        refine wpG_u preGr 12 (some 24) ?_;refine wpG_u preGr 13 (some 25) ?_ (hy := fun w' hw' => by
         try have g0 := cellB' (HB.out.drew.trans (hw'.mono HB.out.size)) hbl HC0.out
         try have g1 := cellB' (HB.out.drew.trans (hw'.mono HB.out.size)) hbl HC1.out
         try have g2 := (copy_cells (heap_gr ((Gr.drew wr).trans hw') HG.out)).1
         try have g3 := (copy_cells (heap_gr ((Gr.drew wr).trans hw') HG.out)).2
         go_simp;with_reducible rfl)
        refine wpG_u preGr 14 (some 26) ?_;refine wpG_u preGr 15 (some 27) ?_ (hy := fun w' hw' => by
         try have g0 := cellB' (HB.out.drew.trans (hw'.mono HB.out.size)) hbl HC0.out
         try have g1 := cellB' (HB.out.drew.trans (hw'.mono HB.out.size)) hbl HC1.out
         try have g2 := (copy_cells (heap_gr ((Gr.drew wr).trans hw') HG.out)).1
         try have g3 := (copy_cells (heap_gr ((Gr.drew wr).trans hw') HG.out)).2
         go_simp;with_reducible rfl)
        refine wpG_u preGr 16 (some 28) ?_ (hy := fun w' hw' => by
         try have g0 := cellB' (HB.out.drew.trans (hw'.mono HB.out.size)) hbl HC0.out
         try have g1 := cellB' (HB.out.drew.trans (hw'.mono HB.out.size)) hbl HC1.out
         try have g2 := (copy_cells (heap_gr ((Gr.drew wr).trans hw') HG.out)).1
         try have g3 := (copy_cells (heap_gr ((Gr.drew wr).trans hw') HG.out)).2
         go_simp;with_reducible rfl)
        refine wpG_u preGr 17 (some 29) ?_;refine wpG_u preGr 18 (some 30) ?_;refine wpG_done (by kernel_rfl) ?_ _;go_wp2
        go_roundw
        case rel =>
         have HN1 := HN.out;have HG1 : wr.drew.heap[w.heap.size]? = some (.cells #[.int .i64 T, .slice A L C] 69) := HG.out
         first | exact ⟨k + 1, by omega, by go_num, HN1, HB.out.drew, HG1⟩ | ((repeat apply Exists.intro); exact ⟨⟨k + 1, by omega, by go_num, HN1, HB.out.drew, HG1⟩, rfl⟩)
        case measure => simp [intOf]; omega
    · have HN := hd_ (HNX.out (decide_eq_false fun h => ht h.1));have e1 : (r.typ == T) = false := by simpa using ht
      clear ht HNX;go_upto_region 4 with fail
      refine wp_region_G 19 Gr (by kernel_rfl) ?_;refine wpG_u preGr 0 (some 12) ?_;refine wpG_u preGr 1 (some 13) ?_;refine wpG_u preGr 2 (some 14) ?_ (hy := fun w' hw' => by
       try have g0 := cellB' (HB.out.drew.trans (hw'.mono HB.out.size)) hbl HC0.out
       try have g1 := cellB' (HB.out.drew.trans (hw'.mono HB.out.size)) hbl HC1.out
       try have g2 := (copy_cells (heap_gr ((Gr.drew wr).trans hw') HG.out)).1
       try have g3 := (copy_cells (heap_gr ((Gr.drew wr).trans hw') HG.out)).2
       go_simp;with_reducible rfl)
      refine wpG_u preGr 3 (some 15) ?_;refine wpG_u preGr 4 (some 16) ?_ (hy := fun w' hw' => by
       try have g0 := cellB' (HB.out.drew.trans (hw'.mono HB.out.size)) hbl HC0.out
       try have g1 := cellB' (HB.out.drew.trans (hw'.mono HB.out.size)) hbl HC1.out
       try have g2 := (copy_cells (heap_gr ((Gr.drew wr).trans hw') HG.out)).1
       try have g3 := (copy_cells (heap_gr ((Gr.drew wr).trans hw') HG.out)).2
       go_simp;with_reducible rfl)
      refine wpG_u preGr 5 (some 17) ?_;refine wpG_u preGr 6 (some 18) ?_ (hy := fun w' hw' => by
       try have g0 := cellB' (HB.out.drew.trans (hw'.mono HB.out.size)) hbl HC0.out
       try have g1 := cellB' (HB.out.drew.trans (hw'.mono HB.out.size)) hbl HC1.out
       try have g2 := (copy_cells (heap_gr ((Gr.drew wr).trans hw') HG.out)).1
       try have g3 := (copy_cells (heap_gr ((Gr.drew wr).trans hw') HG.out)).2
       go_simp;with_reducible rfl)
      refine wpG_u preGr 7 (some 19) ?_;refine wpG_u preGr 8 (some 20) ?_;refine wpG_p preGr 9 (some 21) ?_;refine wpG_p preGr 10 (some 22) ?_;refine wpG_p preGr 11 (some 23) ?_;refine wpG_p preGr 12 (some 24) ?_;refine wpG_p preGr 13 (some 25) ?_;refine wpG_p preGr 14 (some 26) ?_;refine wpG_p preGr 15 (some 27) ?_;refine wpG_p preGr 16 (some 28) ?_;refine wpG_p preGr 17 (some 29) ?_;refine wpG_u preGr 18 (some 30) ?_;refine wpG_done (by kernel_rfl) ?_ _;go_wp2
      go_roundw
      case rel =>
       have HN1 := HN.out;have HG1 : wr.drew.heap[w.heap.size]? = some (.cells #[.int .i64 T, .slice A L C] 69) := HG.out
       first | exact ⟨k + 1, by omega, by go_num, HN1, HB.out.drew, HG1⟩ | ((repeat apply Exists.intro); exact ⟨⟨k + 1, by omega, by go_num, HN1, HB.out.drew, HG1⟩, rfl⟩)
      case measure => simp [intOf]; omega
  · obtain rfl : k = n := by omega
    have HF : Hid (ruleOf rs (T, l) = none) := ruleOf_no fun j hj => HNE.out j (by omega) hj
    go_wp2
    go_ret
    exact ⟨.inr ⟨rfl, HF.out⟩, HB.out⟩
theorem has_any (ao : Option Addr) (n c : Nat) (ts : List Tg) (t : Int) (w : World) (hr : TR w (.slice ao n c) n ts) (hn : n <= 1000) :
 Calls Tryz.prog 53 #[.slice ao n c, .int .i64 t] w fun e w' => e = .returned (.bool (hasT (plain ts) t)) /\ w = w' := by
 have hl := hr.len;have HR := hd_ hr;clear hr;go_enter Tryz.func53, Tryz.ntmps53
 go_wp2
 go_loopw [5] (fun iv wr => ∃ k : Nat, k <= n /\ iv = .int .i64 k /\ (∀ j (hj : j < k) (h2 : j < ts.length), ts[j].typ ≠ t) /\ w = wr) (fun iv _ => n - (intOf iv).toNat)
 case atStart => exact ⟨0, Nat.zero_le _, rfl, fun j hj => by omega, rfl⟩
 case round =>
  obtain ⟨k, hk, rfl, hne, rfl⟩ := hrel;have HNE := hd_ hne;clear hne
  by_cases hlt : k < n
  · obtain ⟨b, o, rfl, hbl, hc⟩ := HR.out.cells (by omega);have hc0 := (hc k (by omega)).1;obtain ⟨T, hT⟩ : ∃ T, T = ts[k].typ := ⟨_, rfl⟩;rw [<- hT] at hc0;have HTT := hd_ hT;clear hT hc
    by_cases ht : T = t
    · have HF : Hid (hasT (plain ts) t = true) := by
       show _ = _;rw [hasT_iff];exact ⟨ts[k].plain, List.mem_map.2 ⟨_, List.getElem_mem _, rfl⟩, by rw [<- ht, HTT.out]; rfl⟩
      have e1 : (T == t) = true := by simpa using ht
      clear ht;go_wp2
      go_ret
      exact ⟨by rw [HF.out]; rfl, rfl⟩
    · have e1 : (T == t) = false := by simpa using ht
      have HT := hd_ ht;clear ht;go_wp2
      go_roundw
      case rel =>
       have HN1 : ∀ j (hj : j < k + 1) (h2 : j < ts.length), ts[j].typ ≠ t := fun j hj h2 => by
        by_cases e : j = k
        · subst e; rw [<- HTT.out]; exact HT.out
        · exact HNE.out j (by omega) h2
       first | exact ⟨k + 1, by omega, by go_num, HN1, trivial⟩ | exact ⟨k + 1, by omega, by go_num, HN1, rfl⟩ | ((repeat apply Exists.intro); exact ⟨⟨k + 1, by omega, by go_num, HN1, trivial⟩, rfl⟩)
      case measure => simp [intOf]; omega
  · obtain rfl : k = n := by omega
    have HF : Hid (hasT (plain ts) t = false) := by
     show _ = _;rw [Bool.eq_false_iff];intro e;obtain ⟨x, hx, e⟩ := hasT_iff.1 e;obtain ⟨y, hy, rfl⟩ := List.mem_map.1 hx;obtain ⟨i, hi, rfl⟩ := List.mem_iff_getElem.1 hy;exact HNE.out i (by omega) hi e
    go_wp2
    go_ret
    exact ⟨by rw [HF.out]; rfl, rfl⟩
theorem takeN_pow (l : List UInt8) : ∀ k, k <= l.length -> takeN l k < 256 ^ k
 | 0, _ => by rw [takeN_zero]; decide
 | k + 1, h => by
  have ih := takeN_pow l k (by omega);have hb := UInt8.toNat_lt l[k];rw [takeN_succ l k (by omega), Nat.pow_succ];omega
set_option maxRecDepth 20000 in
theorem number_any (T : Int) (A : Option Addr) (L C : Nat) (l : List UInt8) (hL : l.length = L) (h4 : L <= 4) (w : World) (hb : Bs w (.slice A L C) l) :
 Calls Tryz.prog 55 #[.agg #[.int .i64 T, .slice A L C]] w fun e w' => e = .returned (.int .i64 (num (T, l))) /\ Below w.heap.size w w' := by
 have HAL : Hid (Gr w (w.alloc (.cells #[.int .i64 T, .slice A L C] 69))) := (Gr.refl w).alloc _;have HG0 : Hid ((w.alloc (.cells #[.int .i64 T, .slice A L C] 69)).heap[w.heap.size]? = some (.cells #[.int .i64 T, .slice A L C] 69)) := heap_alloc_last _ _;have HLL := hd_ hL;have HB := hd_ hb;clear hb hL;go_enter Tryz.func55, Tryz.ntmps55
 go_wp2
 go_loopw [3, 4] (fun nv iv wr => ∃ k m : Nat, k <= L /\ m = takeN l k /\ iv = .int .i64 k /\ nv = .int .i64 (m : Nat) /\ wr.heap[w.heap.size]? = some (.cells #[.int .i64 T, .slice A L C] 69) /\ Gr w wr) (fun _ iv _ => L - (intOf iv).toNat)
 case atStart => exact ⟨0, 0, Nat.zero_le _, (takeN_zero l).symm, rfl, rfl, HG0.out, HAL.out⟩
 case round =>
  obtain ⟨k, m, hk, hm, rfl, rfl, hg, hgr⟩ := hrel;have HG := hd_ hg;have HGR := hd_ hgr;obtain ⟨k0, k1⟩ := copy_cells hg;clear hg hgr
  by_cases hlt : k < L
  · obtain ⟨b, o, rfl, hbl, hc⟩ := (HB.out.below HGR.out).cells (by rw [HLL.out]; omega);have hck := hc k (by rw [HLL.out]; exact hlt);have hm' : m < 4294967296 := by rw [hm]; exact Nat.lt_of_lt_of_le (takeN_pow l k (by rw [HLL.out]; omega)) (Nat.pow_le_pow_right (by decide) (show k <= 4 by omega))
    have hb8 := UInt8.toNat_lt (l[k]'(by rw [HLL.out]; exact hlt));have HST : Hid (takeN l (k + 1) = 256 * m + (l[k]'(by rw [HLL.out]; exact hlt)).toNat) := by
     show _ = _;rw [takeN_succ l k (by rw [HLL.out]; exact hlt), hm, Nat.mul_comm]
    obtain ⟨B, hB⟩ : ∃ B, B = (l[k]'(by rw [HLL.out]; exact hlt)).toNat := ⟨_, rfl⟩;rw [<- hB] at hck hb8 HST;have hkl : (k : Int) < (L : Int) := by omega
    clear hm hc hB;go_wp2
    go_roundw
    case rel =>
     have hst := HST.out
     first | exact ⟨k + 1, 256 * m + B, by omega, hst.symm, by go_num, by go_num, HG.out, HGR.out⟩ | ((repeat apply Exists.intro); exact ⟨⟨k + 1, 256 * m + B, by omega, hst.symm, by go_num, by go_num, HG.out, HGR.out⟩, rfl⟩)
    case measure => simp [intOf]; omega
  · obtain rfl : k = L := by omega
    have HM : Hid (num (T, l) = (m : Int)) := by
     show _ = _;unfold num;rw [hm];show ((takeN l l.length : Nat) : Int) = _;rw [HLL.out]
    clear hm;go_wp2
    go_ret
    exact ⟨by rw [HM.out]; rfl, HGR.out⟩
theorem rput_zero (w : World) (n : Int) : Calls Tryz.prog 73 #[.int .u64 n, .int .i64 0] w fun e w' => e = .returned (.slice none 0 0) /\ w = w' := by
 go_enter Tryz.func73, Tryz.ntmps73
 go_wp2
 go_ret
 exact ⟨rfl, rfl⟩
theorem rput_small (n size : Nat) (w : World) (h1 : size <= 4) (hn : n < 18446744073709551616) :
 Calls Tryz.prog 73 #[.int .u64 n, .int .i64 size] w fun e w' => ∃ v, e = .returned v /\ OwnB w' w.heap.size 5 v (putL n size) /\ Below w.heap.size w w' := by
 by_cases h0 : size = 0
 · subst h0;refine (rput_zero w n).mono ?_;rintro e w' ⟨rfl, rfl⟩;exact ⟨_, rfl, by rw [putL_zero]; exact OwnB.nil _ _ _, Below.refl _ _⟩
 · exact rput_yes n size w (by omega) (by omega) hn
set_option maxRecDepth 20000 in
set_option maxHeartbeats 2000000 in
theorem rgood_any (r : Ru) (w : World) (hr : isR r) :
 Calls Tryz.prog 56 #[.agg #[.int .i64 r.typ, .int .i64 r.size, .int .i64 r.kind, .int .i64 r.low, .int .i64 r.high, .int .i64 r.good, .bool r.must]] w fun e w' => ∃ v, e = .returned (.agg #[.int .i64 r.typ, v]) /\ OwnB w' w.heap.size 5 v (goodO r).2 /\ Below w.heap.size w w' := by
 obtain ⟨n, hn⟩ : ∃ n : Nat, r.size = (n : Int) := ⟨r.size.toNat, by have := hr.2.2.1; omega⟩;obtain ⟨N, hN⟩ : ∃ N : Nat, r.good = (N : Int) := ⟨r.good.toNat, by have := hr.2.2.2.2.2.2.2.2.2.1; omega⟩;have h4 : n <= 4 := by have := hr.2.2.2.1; omega
 have hlt : N < 4294967296 := by
  have h1 := hr.2.2.2.2.2.2.2.2.2.2.1
  rcases lim_cases ⟨hr.2.2.1, hr.2.2.2.1⟩ with ⟨_, e⟩ | ⟨_, e⟩ | ⟨_, e⟩ | ⟨_, e⟩ | ⟨_, e⟩ <;> omega
 have e2 : (goodO r).2 = putL N n := by
  show putL r.good.toNat r.size.toNat = _;rw [hn, hN]; rfl
 rw [e2, hn, hN];have hal : Gr w ((w.alloc (.cells #[.int .i64 r.typ, .int .i64 n, .int .i64 r.kind, .int .i64 r.low, .int .i64 r.high, .int .i64 N, .bool r.must] 101)).alloc (.cells #[.int .i64 0, .slice none 0 0] 69)) := ((Gr.refl w).alloc _).alloc _;have HAL := hd_ hal;have HG0 : Hid (((w.alloc (.cells #[.int .i64 r.typ, .int .i64 n, .int .i64 r.kind, .int .i64 r.low, .int .i64 r.high, .int .i64 N, .bool r.must] 101)).alloc (.cells #[.int .i64 0, .slice none 0 0] 69)).heap[w.heap.size]? = some (.cells #[.int .i64 r.typ, .int .i64 n, .int .i64 r.kind, .int .i64 r.low, .int .i64 r.high, .int .i64 N, .bool r.must] 101)) := heap2_0' _ _ _;have HG1 : Hid (((w.alloc (.cells #[.int .i64 r.typ, .int .i64 n, .int .i64 r.kind, .int .i64 r.low, .int .i64 r.high, .int .i64 N, .bool r.must] 101)).alloc (.cells #[.int .i64 0, .slice none 0 0] 69)).heap[w.heap.size + 1]? = some (.cells #[.int .i64 0, .slice none 0 0] 69)) := heap2_1' _ _ _;have HW : Hid (IntKind.u64.wrap (N : Int) = (N : Int)) := by
  show _ = _;rw [IntKind.wrap_u64]; omega
 have PU : Hid (∀ w', Calls Tryz.prog 73 #[.int .u64 N, .int .i64 n] w' fun e w3 => ∃ v, e = .returned v /\ OwnB w3 w'.heap.size 5 v (putL N n) /\ Below w'.heap.size w' w3) := fun w' => rput_small N n w' h4 (by omega)
 have HL : Hid ((putL N n).length = n) := by show _ = _; rw [putL_length]
 clear hal hr hn hN h4 hlt e2;go_enter Tryz.func56, Tryz.ntmps56
 go_upto_region 1 with fail
 obtain ⟨wq, hwq⟩ : ∃ wq, wq = ((w.alloc (.cells #[.int .i64 r.typ, .int .i64 n, .int .i64 r.kind, .int .i64 r.low, .int .i64 r.high, .int .i64 N, .bool r.must] 101)).alloc (.cells #[.int .i64 0, .slice none 0 0] 69)) := ⟨_, rfl⟩;rw [<- hwq];rw [<- hwq] at HAL HG0 HG1;clear hwq;refine wp_region_G 9 Gr (by kernel_rfl) ?_;refine wpG_u preGr 0 (some 3) ?_;refine wpG_u preGr 1 (some 4) ?_ (hy := fun w' hw' => by
  obtain ⟨g0, g1, g2, g3, g4, g5, g6⟩ := cells7 (heap_gr ((Gr.drew wq).trans hw') HG0.out);have hw64 := HW.out;go_simp;with_reducible rfl)
 refine wpG_u preGr 2 (some 5) ?_;refine wpG_u preGr 3 (some 6) ?_ (hy := fun w' hw' => by
  obtain ⟨g0, g1, g2, g3, g4, g5, g6⟩ := cells7 (heap_gr ((Gr.drew wq).trans hw') HG0.out);have hw64 := HW.out;go_simp;with_reducible rfl)
 refine wpG_u preGr 4 (some 7) ?_ (hy := fun w' hw' => by
  obtain ⟨g0, g1, g2, g3, g4, g5, g6⟩ := cells7 (heap_gr ((Gr.drew wq).trans hw') HG0.out);have hw64 := HW.out;go_simp;with_reducible rfl)
 refine wpG_u preGr 5 (some 8) ?_;refine wpG_u preGr 6 (some 9) ?_ (hy := fun w' hw' => by
  obtain ⟨g0, g1, g2, g3, g4, g5, g6⟩ := cells7 (heap_gr ((Gr.drew wq).trans hw') HG0.out);have hw64 := HW.out;go_simp;with_reducible rfl)
 refine wpG_one (i := 7) rfl (by kernel_rfl) (by rfl) ?_;go_simp;refine (PU.out _).mono ?_;rintro e w3 ⟨v3, rfl, hown3, hb3⟩;obtain ⟨A3, L3, C3, ev, hL3, _, _⟩ := hown3.bs.sl;subst ev;refine ⟨hb3, ?_⟩;have hq3 : Gr wq w3 := (Gr.drew wq).trans hb3;have HB3 := hd_ (HAL.out.trans hq3);have HG3 := hd_ (heap_gr hq3 HG1.out);have HO3 := hd_ (hown3.mono (base' := w.heap.size) (show w.heap.size <= wq.drew.heap.size from HAL.out.size));clear hown3 hb3 hq3 hL3;try simp only [Act.put, aq1, aq2, aq3]
 refine wpG_u preGr 8 (some 11) ?_ (hy := fun w' hw' => by
  refine Eq.trans (build_run (P := Tryz.prog) 69 [(0, .tmp 4), (1, .tmp 10)] ?_ #[.int .i64 r.typ, .slice A3 L3 C3] ?_) ?_
  · rfl
  · exact O.builtT r.typ A3 L3 C3
  · with_reducible rfl)
 refine wpG_tail (i := 9) (by decide) rfl (by kernel_rfl) (by rfl) ?_;refine wp_store_whole (none) 69 (.tmp 2) (.tmp 11) rfl (w.heap.size + 1) [.int .i64 r.typ, .slice A3 L3 C3] rfl rfl 69 [.int .i64 0, .slice none 0 0] HG3.out O.sizeT rfl (O.one_tag _ rfl) rfl ?_;intro w4 h4 ho4;have H4 := hd_ h4;have HB4 : Hid (Below w.heap.size w w4) := ho4.below _ _ (Nat.le_succ _) HB3.out;have HO4 := hd_ (HO3.out.off ho4 (fun q hq e => own_ne_cell HO3.out HG3.out (by decide) (by rw [hq, e])));clear h4 ho4;try simp only [Act.put, aq1, aq2, aq3]
 refine wpG_done (by kernel_rfl) ?_ _;go_wp2
 refine bodyPost_ret (v := .agg #[.int .i64 r.typ, .slice A3 L3 C3]) (results_cell_row (P := Tryz.prog) (fn := Tryz.f56) rfl _ _ (w.heap.size + 1) 69 _ (0, 0) _ rfl H4.out Tryz.underlying69 rfl (by kernel_rfl)) rfl ?_;exact ⟨_, rfl, HO4.out, HB4.out⟩
def Alike (ts us : List Tg) (k : Nat) : Prop := (plain ts).take k = (plain us).take k
theorem Alike.zero (ts us : List Tg) : Alike ts us 0 := rfl
theorem Alike.next {ts us : List Tg} {k : Nat} (h : Alike ts us k) (h1 : k < ts.length) (h2 : k < us.length) (e : (ts[k].typ, ts[k].l) = (us[k].typ, us[k].l)) : Alike ts us (k + 1) := by
 unfold Alike at *;rw [List.take_succ_eq_append_getElem (by rw [plain_length]; exact h1), List.take_succ_eq_append_getElem (by rw [plain_length]; exact h2), h, plain_get ts k h1, plain_get us k h2, e]
theorem Alike.all {ts us : List Tg} {n : Nat} (h : Alike ts us n) (h1 : ts.length = n) (h2 : us.length = n) : plain ts = plain us := by
 unfold Alike at h
 rwa [List.take_of_length_le (by rw [plain_length]; omega), List.take_of_length_le (by rw [plain_length]; omega)] at h
theorem plain_at {ts us : List Tg} (h : plain ts = plain us) (i : Nat) (h1 : i < ts.length) (h2 : i < us.length) : (ts[i].typ, ts[i].l) = (us[i].typ, us[i].l) := by
 have e1 := plain_get ts i h1;have e2 := plain_get us i h2;have h3 : (plain ts)[i]'(by rw [plain_length]; exact h1) = (plain us)[i]'(by rw [plain_length]; exact h2) := by simp only [h]
 rw [e1, e2] at h3;exact h3
theorem plain_len {ts us : List Tg} (h : plain ts = plain us) : ts.length = us.length := by
 have := congrArg List.length h; rwa [plain_length, plain_length] at this
def RO (w0 w : World) (base : Nat) (v : Value) (l : List PT) : Prop := ∃ R : List Tg, plain R = l /\ w.ownsRow base 69 2 v R.length (flat R) /\ ∀ t ∈ R, Bs w0 t.val t.l
structure D3 (w : World) (rl bl nl : List PT) (rv bv nv : Value) (wr : World) : Prop where
 low : Below w.heap.size w wr
 r : RO w wr w.heap.size rv rl
 b : RO w wr w.heap.size bv bl
 n : ∃ N, plain N = nl /\ TO wr w.heap.size nv N
 rb : ∀ k ∈ blk rv, k ∉ blk bv
 rn : ∀ k ∈ blk rv, k ∉ blk nv
 bn : ∀ k ∈ blk bv, k ∉ blk nv
theorem RO.gr {w0 w w' : World} {base : Nat} {v : Value} {l : List PT} (h : RO w0 w base v l) (hb : Below w.heap.size w w') : RO w0 w' base v l := by
 obtain ⟨R, h1, h2, h3⟩ := h;exact ⟨R, h1, ownsRow_below h2 hb, h3⟩
theorem D3.gr {w wr w' : World} {rl bl nl : List PT} {rv bv nv : Value} (h : D3 w rl bl nl rv bv nv wr) (hb : Below wr.heap.size wr w') : D3 w rl bl nl rv bv nv w' := by
 obtain ⟨N, h1, h2⟩ := h.n;exact ⟨h.low.trans (hb.mono h.low.size), h.r.gr hb, h.b.gr hb, ⟨N, h1, h2.below hb⟩, h.rb, h.rn, h.bn⟩
theorem RO.far {w0 w w' : World} {base : Nat} {u v v' : Value} {l : List PT} (h : RO w0 w base u l) (hd : ∀ k ∈ blk u, k ∉ blk v) (hg : w.grownBy w' v.ownBlock) (hw : ∀ k ∈ blk v', k ∈ blk v \/ w.heap.size <= k) : RO w0 w' base u l /\ ∀ k ∈ blk u, k ∉ blk v' := by
 obtain ⟨R, h1, h2, h3⟩ := h;have := far_grow h2 hd hg hw;exact ⟨⟨R, h1, this.1, h3⟩, this.2⟩
theorem TO.far {w w' : World} {base : Nat} {u v v' : Value} {N xs : List Tg} {m : Nat} (h : TO w base u N) (hd : ∀ k ∈ blk u, k ∉ blk v) (hown : w.ownsRow base 69 2 v m (flat xs)) (hg : w.grownBy w' v.ownBlock) (hw : ∀ k ∈ blk v', k ∈ blk v \/ w.heap.size <= k) : TO w' base u N /\ ∀ k ∈ blk u, k ∉ blk v' := by
 have := far_grow h.own hd hg hw;exact ⟨⟨this.1, fun t ht => (h.vals t ht).kept hg (own_ne_block (h.vals t ht) hown (by decide))⟩, this.2⟩
theorem RO.own {w0 w : World} {base : Nat} {v : Value} {l : List PT} (h : RO w0 w base v l) : ∃ R : List Tg, plain R = l /\ R.length = l.length /\ w.ownsRow base 69 2 v l.length (flat R) /\ ∀ t ∈ R, Bs w0 t.val t.l := by
 obtain ⟨R, h1, h2, h3⟩ := h;have e : R.length = l.length := by rw [<- h1, plain_length]
 exact ⟨R, h1, e, by rw [<- e]; exact h2, h3⟩
theorem D3.addR {w w1 w2 : World} {rl bl nl : List PT} {rv bv nv v' : Value} {R : List Tg} {t : Tg} (h : D3 w rl bl nl rv bv nv w1) (hR : plain R = rl) (hv : ∀ t ∈ R, Bs w t.val t.l) (ho0 : w1.ownsRow w.heap.size 69 2 rv rl.length (flat R)) (ht : Bs w t.val t.l) (ho : w2.ownsRow w.heap.size 69 2 v' (rl.length + 1) (flat R ++ [.int .i64 t.typ, t.val])) (hg : w1.grownBy w2 rv.ownBlock) (hw : ∀ k ∈ blk v', k ∈ blk rv \/ w1.heap.size <= k) :
 D3 w (rl ++ [t.plain]) bl nl v' bv nv w2 := by
 obtain ⟨N, hN, hNo⟩ := h.n;have hb := h.b.far (far_sym h.rb) hg hw;have hn := TO.far hNo (far_sym h.rn) ho0 hg hw;refine ⟨h.low.trans (grown_below ho0 h.low.size hg), ⟨R ++ [t], by rw [plain_append, hR]; rfl, ?_, fun x hx => ?_⟩, hb.1, ⟨N, hN, hn.1⟩, far_sym hb.2, far_sym hn.2, h.bn⟩
 · have e : (R ++ [t]).length = rl.length + 1 := by rw [List.length_append, <- hR, plain_length]; rfl
   rw [e, flat_append];exact ho
 · rcases List.mem_append.1 hx with hx | hx
   · exact hv x hx
   · rw [List.mem_singleton.1 hx]; exact ht
theorem D3.addB {w w1 w2 : World} {rl bl nl : List PT} {rv bv nv v' : Value} {R : List Tg} {t : Tg} (h : D3 w rl bl nl rv bv nv w1) (hR : plain R = bl) (hv : ∀ t ∈ R, Bs w t.val t.l) (ho0 : w1.ownsRow w.heap.size 69 2 bv bl.length (flat R)) (ht : Bs w t.val t.l) (ho : w2.ownsRow w.heap.size 69 2 v' (bl.length + 1) (flat R ++ [.int .i64 t.typ, t.val])) (hg : w1.grownBy w2 bv.ownBlock) (hw : ∀ k ∈ blk v', k ∈ blk bv \/ w1.heap.size <= k) :
 D3 w rl (bl ++ [t.plain]) nl rv v' nv w2 := by
 obtain ⟨N, hN, hNo⟩ := h.n;have hb := h.r.far h.rb hg hw;have hn := TO.far hNo (far_sym h.bn) ho0 hg hw;refine ⟨h.low.trans (grown_below ho0 h.low.size hg), hb.1, ⟨R ++ [t], by rw [plain_append, hR]; rfl, ?_, fun x hx => ?_⟩, ⟨N, hN, hn.1⟩, hb.2, h.rn, far_sym hn.2⟩
 · have e : (R ++ [t]).length = bl.length + 1 := by rw [List.length_append, <- hR, plain_length]; rfl
   rw [e, flat_append];exact ho
 · rcases List.mem_append.1 hx with hx | hx
   · exact hv x hx
   · rw [List.mem_singleton.1 hx]; exact ht
theorem D3.addN {w w1 w2 : World} {rl bl nl : List PT} {rv bv nv v' : Value} {N : List Tg} {t : Tg} (h : D3 w rl bl nl rv bv nv w1) (hN : plain N = nl) (hNo : TO w1 w.heap.size nv N) (ht : OwnB w1 w.heap.size 5 t.val t.l) (ho : w2.ownsRow w.heap.size 69 2 v' (N.length + 1) (flat N ++ [.int .i64 t.typ, t.val])) (hg : w1.grownBy w2 nv.ownBlock) (hw : ∀ k ∈ blk v', k ∈ blk nv \/ w1.heap.size <= k) :
 D3 w rl bl (nl ++ [t.plain]) rv bv v' w2 := by
 have hr := h.r.far h.rn hg hw;have hb := h.b.far h.bn hg hw;exact ⟨h.low.trans (grown_below hNo.own h.low.size hg), hr.1, hb.1, ⟨N ++ [t], by rw [plain_append, hN]; rfl, hNo.more ht ho hg⟩, h.rb, hr.2, hb.2⟩
theorem D3.zero (w : World) : D3 w [] [] [] (.slice none 0 0) (.slice none 0 0) (.slice none 0 0) w :=
 ⟨Below.refl _ _, ⟨[], rfl, World.ownsRow_nil _ _ _ _, fun t h => by cases h⟩, ⟨[], rfl, World.ownsRow_nil _ _ _ _, fun t h => by cases h⟩, ⟨[], rfl, TO.nil _ _⟩, (fun k h => by cases h), (fun k h => by cases h), (fun k h => by cases h)⟩
theorem rejs_snoc (rs : List Ru) : ∀ (l seen : List PT) (o : PT), rejs rs seen (l ++ [o]) = rejs rs seen l ++ (if (ruleOf rs o).isNone || hasT (seen ++ l) o.1 then [o] else [])
 | [], seen, o => by simp [rejs]
 | x :: l, seen, o => by
  rw [List.cons_append, rejs, rejs, rejs_snoc rs l, List.append_assoc, List.append_assoc];rfl
def badO (rs : List Ru) (o : PT) (came : Bool) : List (PT × PT) := match ruleOf rs o with
 | none => []
 | some r => if came then [] else if takes r (num o) then [] else [(o, goodO r)]
theorem bads_snoc (rs : List Ru) : ∀ (l seen : List PT) (o : PT), bads rs seen (l ++ [o]) = bads rs seen l ++ badO rs o (hasT (seen ++ l) o.1)
 | [], seen, o => by
  rw [List.nil_append, List.append_nil];unfold badO;cases h : ruleOf rs o <;> simp [bads, h]
 | x :: l, seen, o => by
  rw [List.cons_append, bads, bads, bads_snoc rs l, List.append_assoc, List.append_assoc];rfl
theorem rejs_len (rs : List Ru) : ∀ (l seen : List PT), (rejs rs seen l).length <= l.length
 | [], _ => Nat.le_refl _
 | o :: l, seen => by
  have := rejs_len rs l (seen ++ [o]);unfold rejs;rw [List.length_append, List.length_cons];split <;> simp <;> omega
theorem bads_len (rs : List Ru) : ∀ (l seen : List PT), (bads rs seen l).length <= l.length
 | [], _ => Nat.le_refl _
 | o :: l, seen => by
  have := bads_len rs l (seen ++ [o]);unfold bads;rw [List.length_append, List.length_cons];cases ruleOf rs o with
  | none => simp; omega
  | some r =>
   simp only;split
   · simp; omega
   · split <;> simp <;> omega
theorem TR.upto {w : World} {a : Option Addr} {m c : Nat} {us : List Tg} (h : TR w (.slice a m c) m us) (i : Nat) (hi : i <= m) :
 ∃ a', (∀ w', (Instr.slice 26 (.slice a m c) none (some (.int .i64 (i : Int))) none).run Tryz.prog w' = .ok (.slice a' i c) w') /\ TR w (.slice a' i c) i (us.take i) := by
 obtain ⟨i0, hi0, hz0, hz1, hz2⟩ := info_parts infoT;obtain ⟨a', h1, h2⟩ := slice_upto (P := Tryz.prog) Tryz.underlying26 hi0 hz1 h.rd .i64 i i rfl hi;refine ⟨a', h1, ?_, fun t ht => h.vals t (List.mem_of_mem_take ht)⟩;have e : ∀ (l : List Tg) (k : Nat), (flat l).take (k * 2) = flat (l.take k) := by
  intro l
  induction l with
  | nil => intro k; simp [flat]
  | cons x r ih =>
   intro k;cases k with
   | zero => simp [flat]
   | succ k =>
    rw [show (k + 1) * 2 = k * 2 + 1 + 1 by omega, flat_cons, List.take_succ_cons, List.take_succ_cons, List.take_succ_cons, flat_cons, ih]
 rw [e] at h2;exact h2
theorem plain_take (ts : List Tg) (k : Nat) : plain (ts.take k) = (plain ts).take k := by unfold plain; rw [List.map_take]
def Small (l : List PT) : Prop := ∀ o ∈ l, I64 o.1 /\ o.2.length <= 1000
theorem small_row {us : List Tg} (h : Small (plain us)) : (∀ x ∈ us, x.l.length <= 1000) /\ ∀ x ∈ us, I64 x.typ :=
 ⟨fun x hx => (h x.plain (List.mem_map.2 ⟨x, hx, rfl⟩)).2, fun x hx => (h x.plain (List.mem_map.2 ⟨x, hx, rfl⟩)).1⟩
theorem small_good {r : Ru} (h : isR r) : I64 (goodO r).1 /\ (goodO r).2.length <= 1000 := by
 refine ⟨⟨?_, ?_⟩, ?_⟩
 · show _ <= r.typ; have := h.1; omega
 · show r.typ <= _; have := h.2.1; omega
 · show (putL _ _).length <= 1000;rw [putL_length];have := h.2.2.2.1;omega
theorem rejs_sub (rs : List Ru) : ∀ (l seen : List PT), ∀ o ∈ rejs rs seen l, o ∈ l
 | [], _, o, h => by cases h
 | x :: l, seen, o, h => by
  unfold rejs at h
  rcases List.mem_append.1 h with h | h
  · split at h
    · rw [List.mem_singleton.1 h]; simp
    · cases h
  · exact List.mem_cons_of_mem _ (rejs_sub rs l _ o h)
theorem small_ans {rs : List Ru} {l : List PT} {n m : Int} (ha : areR rs) (hs : Small l) : Small (ans rs l n m).2 /\ (ans rs l n m).2.length <= l.length + 16 := by
 have hr := rejs_len rs l [];have hb := bads_len rs l [];have hk : (lacks rs l).length <= 16 := by
  have := lackTo_length rs l rs.length;unfold lackTo at this;rw [List.take_length] at this;exact Nat.le_trans this ha.1
 unfold ans;rw [if_neg (by simpa using ha)];split
 · exact ⟨fun o ho => hs o (rejs_sub rs l [] o ho), by show (rejs rs [] l).length <= _; omega⟩
 · split
   · exact ⟨hs, by show l.length <= _; omega⟩
   · split
     · refine ⟨fun o ho => ?_, by show ((bads rs [] l).map (·.1)).length <= _; rw [List.length_map]; omega⟩;obtain ⟨x, hx, rfl⟩ := List.mem_map.1 ho;exact hs _ (bads_mem hx).1
     · refine ⟨fun o ho => ?_, by show ((bads rs [] l).map (·.2) ++ lacks rs l).length <= _; rw [List.length_append, List.length_map]; omega⟩
       rcases List.mem_append.1 ho with ho | ho
       · obtain ⟨x, hx, rfl⟩ := List.mem_map.1 ho;obtain ⟨_, r, hr2, _, e⟩ := bads_mem hx;rw [e];exact small_good (ha.2.1 r (ruleOf_some hr2).1)
       · obtain ⟨r, hr2, rfl, _⟩ := lacks_mem ho;exact small_good (ha.2.1 r hr2)
theorem strike_sub : ∀ (q l : List PT), ∀ o ∈ (strike q l).1, o ∈ q
 | [], l, o, h => by cases l <;> cases h
 | p :: q, [], o, h => by
  unfold strike at h
  rcases List.mem_cons.1 h with rfl | h
  · simp
  · exact List.mem_cons_of_mem _ (strike_sub q [] o h)
 | p :: q, x :: l, o, h => by
  unfold strike at h;split at h
  · exact List.mem_cons_of_mem _ (strike_sub q l o h)
  · rcases List.mem_cons.1 h with rfl | h
    · simp
    · exact List.mem_cons_of_mem _ (strike_sub q (x :: l) o h)
theorem small_take {l : List PT} {o : PT} (hs : Small l) (ho : I64 o.1 /\ o.2.length <= 1000) : I64 (takeOver l o).1 /\ (takeOver l o).2.length <= 1000 := by
 unfold takeOver;split
 · exact ho
 · rename_i x hx
   exact ⟨ho.1, (hs x (List.mem_of_find?_eq_some hx)).2⟩
theorem small_lrn {q l : List PT} {k : Int} (hq : Small q) (hl : Small l) : Small (lrn q k l).1 /\ (lrn q k l).1.length <= q.length := by
 unfold lrn;split
 · exact ⟨hq, Nat.le_refl _⟩
 · split
   · refine ⟨fun o ho => ?_, by show (q.map _).length <= _; rw [List.length_map]; omega⟩;obtain ⟨x, hx, rfl⟩ := List.mem_map.1 ho;exact small_take hl (hq x hx)
   · split
     · split
       · rename_i h
         refine ⟨fun o ho => hq o (strike_sub q l o ho), ?_⟩;have := strike_len q l;rw [h] at this;show (strike q l).1.length <= _;simp at this;omega
       · exact ⟨hq, Nat.le_refl _⟩
     · exact ⟨hq, Nat.le_refl _⟩
theorem takeOver_cons (x : PT) (l : List PT) (o : PT) : takeOver (x :: l) o = if x.1 = o.1 then (o.1, x.2) else takeOver l o := by
 unfold takeOver;rw [List.find?_cons]
 by_cases h : x.1 = o.1
 · rw [decide_eq_true h, if_pos h]
 · rw [decide_eq_false h, if_neg h]
def Kept (v0 : Value) (n0 : Nat) (qs : List Tg) (w w' : World) (v : Value) (m : Nat) (us : List Tg) : Prop := (v = v0 /\ m = n0 /\ us = qs) \/ (w'.ownsRow w.heap.size 69 2 v m (flat us) /\ ∀ x ∈ us, Bs w x.val x.l)
theorem Kept.tr {v0 : Value} {n0 : Nat} {qs : List Tg} {w w' : World} {v : Value} {m : Nat} {us : List Tg} (h : Kept v0 n0 qs w w' v m us) (h0 : TR w v0 n0 qs) (hb : Below w.heap.size w w') : TR w' v m us := by
 rcases h with ⟨rfl, rfl, rfl⟩ | ⟨h1, h2⟩
 · exact h0.below hb
 · exact ⟨own_rd h1, fun x hx => (h2 x hx).below hb⟩
def RLRes (v0 : Value) (n0 : Nat) (qs : List Tg) (x : List PT × Bool) (w : World) (e : Ending) (w' : World) : Prop := ∃ a m c us, e = .returned (.tuple #[.slice a m c, .bool x.2]) /\ plain us = x.1 /\ Kept v0 n0 qs w w' (.slice a m c) m us /\ Below w.heap.size w w'
theorem RLRes.of {v0 : Value} {n0 : Nat} {qs : List Tg} {x : List PT × Bool} {w w' : World} (l : List PT) (b : Bool) (a : Option Addr) (m c : Nat) (us : List Tg) (h : x = (l, b)) (h1 : plain us = l) (h2 : Kept v0 n0 qs w w' (.slice a m c) m us) (h3 : Below w.heap.size w w') : RLRes v0 n0 qs x w (.returned (.tuple #[.slice a m c, .bool b])) w' := by
 subst h;exact ⟨a, m, c, us, rfl, h1, h2, h3⟩
theorem RO.only {w0 w w' : World} {base g : Nat} {v : Value} {l : List PT} (h : RO w0 w base v l) (ho : Only g w w') (hg : ∀ k ∈ blk v, k ≠ g) : RO w0 w' base v l := by
 obtain ⟨R, h1, h2, h3⟩ := h;exact ⟨R, h1, own_keepW h2 fun k hk => ho.heap k (own_blk h2 k hk).2 (hg k hk), h3⟩
theorem RO.blkLt {w0 w : World} {base : Nat} {v : Value} {l : List PT} (h : RO w0 w base v l) : ∀ k ∈ blk v, k < w.heap.size := by
 obtain ⟨R, h1, h2, h3⟩ := h;exact fun k hk => (own_blk h2 k hk).2
theorem RO.tr {v0 : Value} {n0 : Nat} {qs : List Tg} {w w' : World} {v : Value} {l : List PT} (h : RO w w' w.heap.size v l) (hb : Below w.heap.size w w') : ∃ a m c us, v = .slice a m c /\ plain us = l /\ Kept v0 n0 qs w w' (.slice a m c) m us := by
 obtain ⟨R, h1, h2, h3⟩ := h;obtain ⟨a, c, rfl, _, _⟩ := (own_rd h2).shape;exact ⟨a, R.length, c, R, rfl, h1, .inr ⟨h2, h3⟩⟩
theorem RO.more {w0 w2 : World} {base : Nat} {v' : Value} {l : List PT} {R : List Tg} {t : Tg} (hR : plain R = l) (hv : ∀ t ∈ R, Bs w0 t.val t.l) (ht : Bs w0 t.val t.l) (ho : w2.ownsRow base 69 2 v' (l.length + 1) (flat R ++ [.int .i64 t.typ, t.val])) : RO w0 w2 base v' (l ++ [t.plain]) := by
 refine ⟨R ++ [t], by rw [plain_append, hR]; rfl, ?_, fun x hx => ?_⟩
 · have e : (R ++ [t]).length = l.length + 1 := by rw [List.length_append, <- hR, plain_length]; rfl
   rw [e, flat_append];exact ho
 · rcases List.mem_append.1 hx with hx | hx
   · exact hv x hx
   · rw [List.mem_singleton.1 hx]; exact ht
set_option maxRecDepth 20000 in
set_option maxHeartbeats 8000000 in
theorem rlearn_any (ao : Option Addr) (n c : Nat) (qs : List Tg) (code : Int) (la : Option Addr) (ln lc : Nat) (ts : List Tg) (w : World) (hra : TR w (.slice ao n c) n qs) (hrt : TR w (.slice la ln lc) ln ts) (hn : n <= 1000) (hln : ln <= 1000) :
 Calls Tryz.prog 75 #[.slice ao n c, .int .i64 code, .slice la ln lc] w (RLRes (.slice ao n c) n qs (lrn (plain qs) code (plain ts)) w) := by
 obtain ⟨i0, hi, hz0, hz1, hz2⟩ := info_parts infoT;have hl := hra.len;have hl2 := hrt.len;have HRA := hd_ hra;have HRT := hd_ hrt;clear hra hrt
 by_cases h0 : ln = 0
 · subst h0;have HN : Hid (lrn (plain qs) code (plain ts) = (plain qs, false)) := lrn_none (.inl (plain_nil_iff.2 hl2));go_enter Tryz.func75, Tryz.ntmps75
   go_wp2
   go_ret2
   exact RLRes.of _ false ao n c qs HN.out rfl (.inl ⟨rfl, rfl, rfl⟩) (Below.refl _ _)
 have h0b : ((ln : Int) == 0) = false := by simpa using h0
 have h0z : ¬ (ln : Int) = 0 := by omega
 have HNE : Hid (plain ts ≠ []) := fun e => h0 (by rw [<- hl2]; exact plain_nil_iff.1 e)
 clear h0
 by_cases h3 : code = 3
 · subst h3;have HLR := hd_ (lrn_nak (q := plain qs) HNE.out);go_enter Tryz.func75, Tryz.ntmps75
   go_wp2
   go_loopw [8, 9] (fun s8 iv wr => ∃ (i : Nat) (lv : Value), i <= n /\ iv = .int .i64 (i : Int) /\ lv = s8 /\ RO w wr w.heap.size lv (((plain qs).take i).map (takeOver (plain ts))) /\ Below w.heap.size w wr) (fun _ iv _ => n - (intOf iv).toNat)
   case atStart => exact ⟨0, _, Nat.zero_le _, rfl, rfl, ⟨[], rfl, World.ownsRow_nil _ _ _ _, fun t h => by cases h⟩, Below.refl _ _⟩
   case round =>
    obtain ⟨i, lv, hin, rfl, rfl, hro, hb⟩ := hrel;have HRO := hd_ hro;have HB := hd_ hb;clear hro hb
    by_cases hlt : i < n
    · obtain ⟨b, o, rfl, hbl, hc⟩ := HRA.out.cells (by omega);obtain ⟨hc0, hc1⟩ := hc i (by omega);have HV := hd_ (HRA.out.val i (by omega));obtain ⟨A, L, C, hv, hL, hLC, hCm⟩ := HV.out.sl;rw [hv] at hc1;obtain ⟨T, hT⟩ : ∃ T, T = qs[i].typ := ⟨_, rfl⟩;rw [<- hT] at hc0;obtain ⟨l, hlq⟩ : ∃ l, l = qs[i].l := ⟨_, rfl⟩;have HBS : Hid (Bs w (.slice A L C) l) := by show Bs _ _ _; rw [hlq, <- hv]; exact HV.out
      have HTK : Hid (((plain qs).take (i + 1)).map (takeOver (plain ts)) = ((plain qs).take i).map (takeOver (plain ts)) ++ [takeOver (plain ts) (T, l)]) := by
       show _ = _;rw [List.take_succ_eq_append_getElem (by rw [plain_length]; omega), plain_get _ _ (by omega), List.map_append, hT, hlq];rfl
      have k0 := cellB' HB.out hbl hc0;have k1 := cellB' HB.out hbl hc1;obtain ⟨wA, hwA⟩ : ∃ x, x = wr := ⟨_, rfl⟩;subst hwA;obtain ⟨g, hg⟩ : ∃ g, g = wA.heap.size := ⟨_, rfl⟩;have hal : Gr wA (wA.alloc (.cells #[.int .i64 T, .slice A L C] 69)) := (Gr.refl _).alloc _;have HB1 := hd_ (HB.out.trans (Below.mono hal HB.out.size));have HRO1 := hd_ (HRO.out.gr hal);have HG1 : Hid ((wA.alloc (.cells #[.int .i64 T, .slice A L C] 69)).heap[g]? = some (.cells #[.int .i64 T, .slice A L C] 69)) := by show _ = _; rw [hg]; exact heap_alloc_last _ _
      have HNG : Hid (∀ k ∈ blk lv, k ≠ g) := fun k hk => by have := HRO.out.blkLt k hk; omega
      have HGB : Hid (w.heap.size <= g) := by show _ <= _; rw [hg]; exact HB.out.size
      have hin2 : (i : Int) < (n : Int) := by omega
      clear hv hL hT hc hc0 hc1 hlq hal;go_upto_region 9 with fail
      rw [<- hg];generalize wA.alloc (.cells #[.int .i64 T, .slice A L C] 69) = wB at HB1 HRO1 HG1 ⊢;clear k0 k1 HRO HB hg;go_wp2
      go_loopw [11] (fun jv wr => ∃ (m : Nat) (z : Int) (dA : Option Addr) (dL dC : Nat) (dl : List UInt8), jv = .int .i64 z /\ z + 1 = (m : Int) /\ m <= ln /\ wr.heap[g]? = some (.cells #[.int .i64 T, .slice dA dL dC] 69) /\ Hid (Bs w (.slice dA dL dC) dl) /\ Hid ((T, dl) = takeOver (plain (ts.drop m)) (T, l)) /\ Only g wB wr) (fun jv _ => (intOf jv + 1).toNat)
      case atStart => exact ⟨ln, (ln : Int) - 1, A, L, C, l, by go_num, by omega, Nat.le_refl _, HG1.out, HBS, by show _ = _; rw [List.drop_of_length_le (by omega)]; rfl, Only.refl _ _⟩
      case round =>
       obtain ⟨m, z, dA, dL, dC, dl, rfl, hz, hmn, hg, HDB, HDT, hon⟩ := hrel;have HG := hd_ hg;have HON := hd_ hon;have HBW : Hid (Below w.heap.size w wr) := hon.below _ _ HGB.out HB1.out;clear hg hon;obtain ⟨q0, q1⟩ := copy_cells HG.out
       by_cases hm : m = 0
       · subst hm;obtain rfl : z = -1 := by omega
         have HRO2 := hd_ (HRO1.out.only HON.out HNG.out);obtain ⟨R, hR, hRl, hRo, hRv⟩ := HRO2.out.own;have HRP := hd_ hR;have HRV := hd_ hRv;have hal : Gr wr (wr.alloc (.cells #[.int .i64 T, .slice dA dL dC] 69)) := (Gr.refl _).alloc _;obtain ⟨M, hM⟩ : ∃ M, M = (((plain qs).take i).map (takeOver (plain ts))).length := ⟨_, rfl⟩;have hM1 : M <= 1000 := by rw [hM, List.length_map, List.length_take]; omega
         rw [<- hM] at hRo;have HMM := hd_ hM;have HRo4 := hd_ (ownsRow_below hRo hal);have HB4 := hd_ (HBW.out.trans (Below.mono hal HBW.out.size));have HRD := hd_ (rd_new wr [.int .i64 T, .slice dA dL dC] 69 1 2 rfl (by decide));clear hR hRl hRo hRv hal hM hz;go_wp2_with (at_builtin; refine wpList_append_gr _ rfl (.tmp 59) (.tmp 61) 26 rfl w.heap.size 69 i0 _ 2 32 Tryz.underlying26 hi hz0 hz1 hz2 rfl (by decide) _ M _ rfl HRo4.out _ 1 _ rfl HRD.out (one_tag T rfl) ?p4 (by decide) HB4.out.size ?_)
         case p4 => omega
         intro vR w5 ho5 hg5;have HRO5 : Hid (RO w w5 w.heap.size vR (((plain qs).take (i + 1)).map (takeOver (plain ts)))) := by
          show RO _ _ _ _ _;rw [HTK.out];have e : takeOver (plain ts) (T, l) = (T, dl) := by have := HDT.out; rw [List.drop_zero] at this; exact this.symm
          rw [e];exact RO.more (t := ⟨T, .slice dA dL dC, dl⟩) HRP.out HRV.out HDB.out (by rw [<- HMM.out]; exact ho5)
         have HB5 := hd_ (HB4.out.trans (grown_below HRo4.out HB4.out.size hg5));clear ho5 hg5;go_wp2
         go_roundw
         case rel =>
          first | exact ⟨i + 1, _, by omega, by go_num, rfl, HRO5.out, HB5.out⟩ | ((repeat apply Exists.intro); exact ⟨⟨i + 1, _, by omega, by go_num, rfl, HRO5.out, HB5.out⟩, rfl⟩)
         case measure => simp [intOf]; omega
       · obtain ⟨k, rfl⟩ : ∃ k, m = k + 1 := ⟨m - 1, by omega⟩;obtain rfl : z = (k : Int) := by omega
         have hk : k < ts.length := by omega
         obtain ⟨b2, o2, ea, hbl2, hcel⟩ := HRT.out.cells (by omega);subst ea;obtain ⟨c0, c1⟩ := hcel k hk;have HV2 := hd_ (HRT.out.val k hk);obtain ⟨A2, L2, C2, hv2, _, _, _⟩ := HV2.out.sl;rw [hv2] at c1;obtain ⟨U, hU⟩ : ∃ U, U = ts[k].typ := ⟨_, rfl⟩;obtain ⟨ul, hul⟩ : ∃ l, l = ts[k].l := ⟨_, rfl⟩;rw [<- hU] at c0;have HUB : Hid (Bs w (.slice A2 L2 C2) ul) := by show Bs _ _ _; rw [hul, <- hv2]; exact HV2.out
         have HDR : Hid (takeOver (plain (ts.drop k)) (T, l) = if U = T then (T, ul) else takeOver (plain (ts.drop (k + 1))) (T, l)) := by
          show _ = _;rw [List.drop_eq_getElem_cons hk];show takeOver (ts[k].plain :: plain (ts.drop (k + 1))) (T, l) = _;rw [takeOver_cons, hU, hul];rfl
         have HC0 := hd_ c0;have HC1 := hd_ c1;have hkl : k < ln := by omega
         have hkl2 : (k : Int) < (ln : Int) := by omega
         have hk0 : (0 : Int) <= (k : Int) := by omega
         clear hcel hv2 hU hul c0 c1 hz hm q0 q1
         by_cases ht : U = T
         · have hte : (U == T) = true := by simpa using ht
           rw [if_pos ht] at HDR;clear ht;go_upto_region 12 with fail
           refine wp_region_G 8 Gr (by kernel_rfl) ?_;refine wpG_u preGr 0 (some 45) ?_;refine wpG_u preGr 1 (some 46) ?_;refine wpG_u preGr 2 (some 47) ?_ (hy := fun w' hw' => by
            try have g0 := cellB' (HBW.out.drew.trans (hw'.mono HBW.out.size)) hbl2 HC0.out
            try have g1 := (copy_cells (heap_gr ((Gr.drew wr).trans hw') HG.out)).1
            go_simp;with_reducible rfl)
           refine wpG_u preGr 3 (some 48) ?_;refine wpG_u preGr 4 (some 49) ?_ (hy := fun w' hw' => by
            try have g0 := cellB' (HBW.out.drew.trans (hw'.mono HBW.out.size)) hbl2 HC0.out
            try have g1 := (copy_cells (heap_gr ((Gr.drew wr).trans hw') HG.out)).1
            go_simp;with_reducible rfl)
           refine wpG_u preGr 5 (some 50) ?_;refine wpG_u preGr 6 (some 51) ?_ (hy := fun w' hw' => by
            try have g0 := cellB' (HBW.out.drew.trans (hw'.mono HBW.out.size)) hbl2 HC0.out
            try have g1 := (copy_cells (heap_gr ((Gr.drew wr).trans hw') HG.out)).1
            go_simp;with_reducible rfl)
           refine wpG_u preGr 7 (some 52) ?_;refine wpG_done (by kernel_rfl) ?_ _;have c1 := cellB' HBW.out.drew hbl2 HC1.out;go_wp2_with (refine wpList_store_cell rfl 30 (.tmp 58) (.tmp 57) rfl g 1 (.slice A2 L2 C2) rfl rfl 69 [.int .i64 T, .slice dA dL dC] (show wr.drew.heap[g]? = some (.cells #[.int .i64 T, .slice dA dL dC] 69) from HG.out) (by kernel_rfl) (by simp) rfl ?_)
           intro w5 h5 ho5;have HG5 : Hid (w5.heap[g]? = some (.cells #[.int .i64 T, .slice A2 L2 C2] 69 (0, 0))) := h5;have HON5 : Hid (Only g wB w5) := (HON.out.trans (Only.grown (Gr.drew wr) (by have := (Array.getElem?_eq_some_iff.1 HG.out).1; omega))).trans ho5;clear h5 ho5 c1;go_wp2
           go_roundw
           case rel =>
            first | exact ⟨k, (k : Int) - 1, A2, L2, C2, ul, by go_num, by omega, by omega, HG5.out, HUB, HDR.out.symm, HON5.out⟩ | ((repeat apply Exists.intro); exact ⟨⟨k, (k : Int) - 1, A2, L2, C2, ul, by go_num, by omega, by omega, HG5.out, HUB, HDR.out.symm, HON5.out⟩, rfl⟩)
           case measure => first | (simp [intOf]; omega) | simp [intOf]
         · have hte : (U == T) = false := by simpa using ht
           rw [if_neg ht] at HDR;have HDT2 : Hid ((T, dl) = takeOver (plain (ts.drop k)) (T, l)) := HDT.out.trans HDR.out.symm;clear ht;go_upto_region 12 with fail
           refine wp_region_G 8 Gr (by kernel_rfl) ?_;refine wpG_u preGr 0 (some 45) ?_;refine wpG_u preGr 1 (some 46) ?_;refine wpG_u preGr 2 (some 47) ?_ (hy := fun w' hw' => by
            try have g0 := cellB' (HBW.out.drew.trans (hw'.mono HBW.out.size)) hbl2 HC0.out
            try have g1 := (copy_cells (heap_gr ((Gr.drew wr).trans hw') HG.out)).1
            go_simp;with_reducible rfl)
           refine wpG_u preGr 3 (some 48) ?_;refine wpG_u preGr 4 (some 49) ?_ (hy := fun w' hw' => by
            try have g0 := cellB' (HBW.out.drew.trans (hw'.mono HBW.out.size)) hbl2 HC0.out
            try have g1 := (copy_cells (heap_gr ((Gr.drew wr).trans hw') HG.out)).1
            go_simp;with_reducible rfl)
           refine wpG_u preGr 5 (some 50) ?_;refine wpG_u preGr 6 (some 51) ?_ (hy := fun w' hw' => by
            try have g0 := cellB' (HBW.out.drew.trans (hw'.mono HBW.out.size)) hbl2 HC0.out
            try have g1 := (copy_cells (heap_gr ((Gr.drew wr).trans hw') HG.out)).1
            go_simp;with_reducible rfl)
           refine wpG_u preGr 7 (some 52) ?_;refine wpG_done (by kernel_rfl) ?_ _;have HON5 : Hid (Only g wB wr.drew) := HON.out.trans (Only.grown (Gr.drew wr) (by have := (Array.getElem?_eq_some_iff.1 HG.out).1; omega));have HG5 : Hid (wr.drew.heap[g]? = some (.cells #[.int .i64 T, .slice dA dL dC] 69)) := HG.out;go_wp2
           go_roundw
           case rel =>
            first | exact ⟨k, (k : Int) - 1, dA, dL, dC, dl, by go_num, by omega, by omega, HG5.out, HDB, HDT2, HON5.out⟩ | ((repeat apply Exists.intro); exact ⟨⟨k, (k : Int) - 1, dA, dL, dC, dl, by go_num, by omega, by omega, HG5.out, HDB, HDT2, HON5.out⟩, rfl⟩)
           case measure => first | (simp [intOf]; omega) | simp [intOf]
    · obtain rfl : i = n := by omega
      have HRO2 : Hid (RO w wr w.heap.size lv ((plain qs).map (takeOver (plain ts)))) := by have := HRO.out; rwa [List.take_of_length_le (by rw [plain_length]; omega)] at this
      obtain ⟨a, m, c', us, ev, hp, htr⟩ := HRO2.out.tr (v0 := .slice ao i c) (n0 := i) (qs := qs) HB.out;subst ev;have HP := hd_ hp;have HTR := hd_ htr;clear hp htr;go_wp2
      go_ret2
      exact RLRes.of _ true a m c' us HLR.out HP.out HTR.out HB.out
 have e3 : (code == 3) = false := by simpa using h3
 have e3' : (code != 3) = true := by simpa using h3
 by_cases h4 : code = 4
 · subst h4;clear h3 e3 e3';have HLR := hd_ (lrn_rej (q := plain qs) HNE.out);go_enter Tryz.func75, Tryz.ntmps75
   go_wp2
   go_loopw [8, 12, 13] (fun s8 kv iv wr => ∃ (i d : Nat) (lv : Value), i <= n /\ d <= ln /\ iv = .int .i64 (i : Int) /\ kv = .int .i64 (d : Int) /\ lv = s8 /\ (strike ((plain qs).take i) (plain ts)).2 = (plain ts).drop d /\ RO w wr w.heap.size lv (strike ((plain qs).take i) (plain ts)).1 /\ Below w.heap.size w wr) (fun _ _ iv _ => n - (intOf iv).toNat)
   case atStart =>
    have hs0 : strike [] (plain ts) = ([], plain ts) := by cases plain ts <;> rfl
    exact ⟨0, 0, _, Nat.zero_le _, Nat.zero_le _, rfl, rfl, rfl, by rw [List.take_zero, hs0]; rfl, by rw [List.take_zero, hs0]; exact ⟨[], rfl, World.ownsRow_nil _ _ _ _, fun t h => by cases h⟩, Below.refl _ _⟩
   case round =>
    obtain ⟨i, d, lv, hin, hd, rfl, rfl, rfl, hst, hro, hb⟩ := hrel;have HST := hd_ hst;have HRO := hd_ hro;have HB := hd_ hb;clear hst hro hb
    by_cases hlt : i < n
    · obtain ⟨b, o, rfl, hbl, hc⟩ := HRA.out.cells (by omega);obtain ⟨hc0, hc1⟩ := hc i (by omega);have HV := hd_ (HRA.out.val i (by omega));obtain ⟨A, L, C, hv, hL, hLC, hCm⟩ := HV.out.sl;rw [hv] at hc1;obtain ⟨T, hT⟩ : ∃ T, T = qs[i].typ := ⟨_, rfl⟩;rw [<- hT] at hc0;obtain ⟨l, hlq⟩ : ∃ l, l = qs[i].l := ⟨_, rfl⟩;have HBS : Hid (Bs w (.slice A L C) l) := by show Bs _ _ _; rw [hlq, <- hv]; exact HV.out
      have HTK : Hid ((plain qs).take (i + 1) = (plain qs).take i ++ [(T, l)]) := by
       show _ = _;rw [List.take_succ_eq_append_getElem (by rw [plain_length]; omega), plain_get _ _ (by omega), hT, hlq]
      have HSN : Hid (strike ((plain qs).take (i + 1)) (plain ts) = ((strike ((plain qs).take i) (plain ts)).1 ++ (strO ((plain ts).drop d) (T, l)).toList, strR ((plain ts).drop d) (T, l))) := by
       show _ = _;rw [HTK.out, strike_snoc, HST.out]
      have S2 : Hid (∀ w', Below w.heap.size w w' -> (convert 30 9 (.slice A L C)).run Tryz.prog w' = .ok (.string ⟨l.toArray⟩) w') := fun w' hw' => run_string_of (P := Tryz.prog) 30 9 5 Tryz.underlying30 Tryz.underlying5 Tryz.underlying9 (HBS.out.below hw')
      have HA0 := hd_ hc0;have HA1 := hd_ hc1;have hin2 : (i : Int) < (n : Int) := by omega
      clear hv hL hT hc hc0 hc1 hlq
      by_cases hdl : d < ln
      · have hdt : d < ts.length := by omega
        obtain ⟨b2, o2, ea, hbl2, hcel⟩ := HRT.out.cells (by omega);subst ea;obtain ⟨c0, c1⟩ := hcel d hdt;have HV2 := hd_ (HRT.out.val d hdt);obtain ⟨A2, L2, C2, hv2, _, _, _⟩ := HV2.out.sl;rw [hv2] at c1;obtain ⟨U, hU⟩ : ∃ U, U = ts[d].typ := ⟨_, rfl⟩;obtain ⟨ul, hul⟩ : ∃ l, l = ts[d].l := ⟨_, rfl⟩;rw [<- hU] at c0;have HUB : Hid (Bs w (.slice A2 L2 C2) ul) := by show Bs _ _ _; rw [hul, <- hv2]; exact HV2.out
        have S1 : Hid (∀ w', Below w.heap.size w w' -> (convert 30 9 (.slice A2 L2 C2)).run Tryz.prog w' = .ok (.string ⟨ul.toArray⟩) w') := fun w' hw' => run_string_of (P := Tryz.prog) 30 9 5 Tryz.underlying30 Tryz.underlying5 Tryz.underlying9 (HUB.out.below hw')
        have HDR : Hid ((plain ts).drop d = (U, ul) :: (plain ts).drop (d + 1)) := by
         show _ = _;rw [List.drop_eq_getElem_cons (by rw [plain_length]; exact hdt), plain_get _ _ hdt, hU, hul]
        have HC0 := hd_ c0;have HC1 := hd_ c1;have hdl2 : (d : Int) < (ln : Int) := by omega
        clear hcel hv2 hU hul c0 c1
        by_cases ht : U = T
        · have hte : (U == T) = true := by simpa using ht
          by_cases hx : ul = l
          · have hxe : (ul == l) = true := by simpa using hx
            have HSN2 : Hid (strike ((plain qs).take (i + 1)) (plain ts) = ((strike ((plain qs).take i) (plain ts)).1, (plain ts).drop (d + 1))) := by
             show _ = _;rw [HSN.out, HDR.out];unfold strO strR;rw [ht, hx];simp
            subst ht;subst hx;clear hte hxe;go_upto_region 20 with fail
            refine wp_region_G 32 Gr (by kernel_rfl) ?_;refine wpG_u preGr 0 (some 70) ?_;refine wpG_u preGr 1 (some 71) ?_;refine wpG_u preGr 2 (some 72) ?_ (hy := fun w' hw' => by
             try have g0 := cellB' (HB.out.drew.trans (hw'.mono HB.out.size)) hbl HA0.out
             try have g1 := cellB' (HB.out.drew.trans (hw'.mono HB.out.size)) hbl HA1.out
             try have g2 := cellB' (HB.out.drew.trans (hw'.mono HB.out.size)) hbl2 HC0.out
             try have g3 := cellB' (HB.out.drew.trans (hw'.mono HB.out.size)) hbl2 HC1.out
             try have g4 := S1.out _ (HB.out.drew.trans (hw'.mono HB.out.size))
             try have g5 := S2.out _ (HB.out.drew.trans (hw'.mono HB.out.size))
             go_simp;with_reducible rfl)
            refine wpG_u preGr 3 (some 73) ?_;refine wpG_u preGr 4 (some 74) ?_;refine wpG_u preGr 5 (some 75) ?_;refine wpG_u preGr 6 (some 76) ?_;refine wpG_u preGr 7 (some 77) ?_ (hy := fun w' hw' => by
             try have g0 := cellB' (HB.out.drew.trans (hw'.mono HB.out.size)) hbl HA0.out
             try have g1 := cellB' (HB.out.drew.trans (hw'.mono HB.out.size)) hbl HA1.out
             try have g2 := cellB' (HB.out.drew.trans (hw'.mono HB.out.size)) hbl2 HC0.out
             try have g3 := cellB' (HB.out.drew.trans (hw'.mono HB.out.size)) hbl2 HC1.out
             try have g4 := S1.out _ (HB.out.drew.trans (hw'.mono HB.out.size))
             try have g5 := S2.out _ (HB.out.drew.trans (hw'.mono HB.out.size))
             go_simp;with_reducible rfl)
            refine wpG_u preGr 8 (some 78) ?_;refine wpG_u preGr 9 (some 79) ?_ (hy := fun w' hw' => by
             try have g0 := cellB' (HB.out.drew.trans (hw'.mono HB.out.size)) hbl HA0.out
             try have g1 := cellB' (HB.out.drew.trans (hw'.mono HB.out.size)) hbl HA1.out
             try have g2 := cellB' (HB.out.drew.trans (hw'.mono HB.out.size)) hbl2 HC0.out
             try have g3 := cellB' (HB.out.drew.trans (hw'.mono HB.out.size)) hbl2 HC1.out
             try have g4 := S1.out _ (HB.out.drew.trans (hw'.mono HB.out.size))
             try have g5 := S2.out _ (HB.out.drew.trans (hw'.mono HB.out.size))
             go_simp;with_reducible rfl)
            refine wpG_u preGr 10 (some 80) ?_;refine wpG_u preGr 11 (some 81) ?_;refine wpG_u preGr 12 (some 82) ?_ (hy := fun w' hw' => by
             try have g0 := cellB' (HB.out.drew.trans (hw'.mono HB.out.size)) hbl HA0.out
             try have g1 := cellB' (HB.out.drew.trans (hw'.mono HB.out.size)) hbl HA1.out
             try have g2 := cellB' (HB.out.drew.trans (hw'.mono HB.out.size)) hbl2 HC0.out
             try have g3 := cellB' (HB.out.drew.trans (hw'.mono HB.out.size)) hbl2 HC1.out
             try have g4 := S1.out _ (HB.out.drew.trans (hw'.mono HB.out.size))
             try have g5 := S2.out _ (HB.out.drew.trans (hw'.mono HB.out.size))
             go_simp;with_reducible rfl)
            refine wpG_u preGr 13 (some 83) ?_;refine wpG_u preGr 14 (some 84) ?_ (hy := fun w' hw' => by
             try have g0 := cellB' (HB.out.drew.trans (hw'.mono HB.out.size)) hbl HA0.out
             try have g1 := cellB' (HB.out.drew.trans (hw'.mono HB.out.size)) hbl HA1.out
             try have g2 := cellB' (HB.out.drew.trans (hw'.mono HB.out.size)) hbl2 HC0.out
             try have g3 := cellB' (HB.out.drew.trans (hw'.mono HB.out.size)) hbl2 HC1.out
             try have g4 := S1.out _ (HB.out.drew.trans (hw'.mono HB.out.size))
             try have g5 := S2.out _ (HB.out.drew.trans (hw'.mono HB.out.size))
             go_simp;with_reducible rfl)
            refine wpG_u preGr 15 (some 85) ?_;refine wpG_u preGr 16 (some 86) ?_;refine wpG_u preGr 17 (some 87) ?_;refine wpG_u preGr 18 (some 88) ?_;refine wpG_u preGr 19 (some 89) ?_;refine wpG_u preGr 20 (some 90) ?_ (hy := fun w' hw' => by
             try have g0 := cellB' (HB.out.drew.trans (hw'.mono HB.out.size)) hbl HA0.out
             try have g1 := cellB' (HB.out.drew.trans (hw'.mono HB.out.size)) hbl HA1.out
             try have g2 := cellB' (HB.out.drew.trans (hw'.mono HB.out.size)) hbl2 HC0.out
             try have g3 := cellB' (HB.out.drew.trans (hw'.mono HB.out.size)) hbl2 HC1.out
             try have g4 := S1.out _ (HB.out.drew.trans (hw'.mono HB.out.size))
             try have g5 := S2.out _ (HB.out.drew.trans (hw'.mono HB.out.size))
             go_simp;with_reducible rfl)
            refine wpG_u preGr 21 (some 91) ?_;refine wpG_u preGr 22 (some 92) ?_ (hy := fun w' hw' => by
             try have g0 := cellB' (HB.out.drew.trans (hw'.mono HB.out.size)) hbl HA0.out
             try have g1 := cellB' (HB.out.drew.trans (hw'.mono HB.out.size)) hbl HA1.out
             try have g2 := cellB' (HB.out.drew.trans (hw'.mono HB.out.size)) hbl2 HC0.out
             try have g3 := cellB' (HB.out.drew.trans (hw'.mono HB.out.size)) hbl2 HC1.out
             try have g4 := S1.out _ (HB.out.drew.trans (hw'.mono HB.out.size))
             try have g5 := S2.out _ (HB.out.drew.trans (hw'.mono HB.out.size))
             go_simp;with_reducible rfl)
            refine wpG_u preGr 23 (some 93) ?_ (hy := fun w' hw' => by
             try have g0 := cellB' (HB.out.drew.trans (hw'.mono HB.out.size)) hbl HA0.out
             try have g1 := cellB' (HB.out.drew.trans (hw'.mono HB.out.size)) hbl HA1.out
             try have g2 := cellB' (HB.out.drew.trans (hw'.mono HB.out.size)) hbl2 HC0.out
             try have g3 := cellB' (HB.out.drew.trans (hw'.mono HB.out.size)) hbl2 HC1.out
             try have g4 := S1.out _ (HB.out.drew.trans (hw'.mono HB.out.size))
             try have g5 := S2.out _ (HB.out.drew.trans (hw'.mono HB.out.size))
             go_simp;with_reducible rfl)
            refine wpG_u preGr 24 (some 94) ?_;refine wpG_u preGr 25 (some 95) ?_;refine wpG_u preGr 26 (some 96) ?_ (hy := fun w' hw' => by
             try have g0 := cellB' (HB.out.drew.trans (hw'.mono HB.out.size)) hbl HA0.out
             try have g1 := cellB' (HB.out.drew.trans (hw'.mono HB.out.size)) hbl HA1.out
             try have g2 := cellB' (HB.out.drew.trans (hw'.mono HB.out.size)) hbl2 HC0.out
             try have g3 := cellB' (HB.out.drew.trans (hw'.mono HB.out.size)) hbl2 HC1.out
             try have g4 := S1.out _ (HB.out.drew.trans (hw'.mono HB.out.size))
             try have g5 := S2.out _ (HB.out.drew.trans (hw'.mono HB.out.size))
             go_simp;with_reducible rfl)
            refine wpG_u preGr 27 (some 97) ?_;refine wpG_u preGr 28 (some 98) ?_ (hy := fun w' hw' => by
             try have g0 := cellB' (HB.out.drew.trans (hw'.mono HB.out.size)) hbl HA0.out
             try have g1 := cellB' (HB.out.drew.trans (hw'.mono HB.out.size)) hbl HA1.out
             try have g2 := cellB' (HB.out.drew.trans (hw'.mono HB.out.size)) hbl2 HC0.out
             try have g3 := cellB' (HB.out.drew.trans (hw'.mono HB.out.size)) hbl2 HC1.out
             try have g4 := S1.out _ (HB.out.drew.trans (hw'.mono HB.out.size))
             try have g5 := S2.out _ (HB.out.drew.trans (hw'.mono HB.out.size))
             go_simp;with_reducible rfl)
            refine wpG_u preGr 29 (some 99) ?_ (hy := fun w' hw' => by
             try have g0 := cellB' (HB.out.drew.trans (hw'.mono HB.out.size)) hbl HA0.out
             try have g1 := cellB' (HB.out.drew.trans (hw'.mono HB.out.size)) hbl HA1.out
             try have g2 := cellB' (HB.out.drew.trans (hw'.mono HB.out.size)) hbl2 HC0.out
             try have g3 := cellB' (HB.out.drew.trans (hw'.mono HB.out.size)) hbl2 HC1.out
             try have g4 := S1.out _ (HB.out.drew.trans (hw'.mono HB.out.size))
             try have g5 := S2.out _ (HB.out.drew.trans (hw'.mono HB.out.size))
             go_simp;with_reducible rfl)
            refine wpG_u preGr 30 (some 100) ?_;refine wpG_u preGr 31 (some 101) ?_;refine wpG_done (by kernel_rfl) ?_ _;have HRO3 := hd_ (HRO.out.gr (Gr.drew wr));have HB3 : Hid (Below w.heap.size w wr.drew) := HB.out.drew;generalize wr.drew = w3 at HB3 HRO3 ⊢;go_wp2
            go_roundw
            case rel =>
             have HX : (strike ((plain qs).take (i + 1)) (plain ts)).2 = (plain ts).drop (d + 1) := by rw [HSN2.out]
             have HY : RO w w3 w.heap.size lv (strike ((plain qs).take (i + 1)) (plain ts)).1 := by rw [HSN2.out]; exact HRO3.out
             first | exact ⟨i + 1, d + 1, _, by omega, by omega, by go_num, by go_num, rfl, HX, HY, HB3.out⟩ | ((repeat apply Exists.intro); exact ⟨⟨i + 1, d + 1, _, by omega, by omega, by go_num, by go_num, rfl, HX, HY, HB3.out⟩, rfl⟩)
            case measure => simp [intOf]; omega
          · have hxe := bytes_ne hx;have HKEEP : Hid ((strike ((plain qs).take (i + 1)) (plain ts)).1 = (strike ((plain qs).take i) (plain ts)).1 ++ [(T, l)] /\ (strike ((plain qs).take (i + 1)) (plain ts)).2 = (plain ts).drop d) := by
             show _ /\ _;rw [HSN.out, HDR.out];unfold strO strR;simp only;rw [if_neg (fun e => hx (congrArg Prod.snd e)), if_neg (fun e => hx (congrArg Prod.snd e))];exact ⟨rfl, rfl⟩
            have ht2 := ht.symm;clear ht hte hx;subst ht2;go_upto_region 20 with fail
            refine wp_region_G 32 Gr (by kernel_rfl) ?_;refine wpG_u preGr 0 (some 70) ?_;refine wpG_u preGr 1 (some 71) ?_;refine wpG_u preGr 2 (some 72) ?_ (hy := fun w' hw' => by
             try have g0 := cellB' (HB.out.drew.trans (hw'.mono HB.out.size)) hbl HA0.out
             try have g1 := cellB' (HB.out.drew.trans (hw'.mono HB.out.size)) hbl HA1.out
             try have g2 := cellB' (HB.out.drew.trans (hw'.mono HB.out.size)) hbl2 HC0.out
             try have g3 := cellB' (HB.out.drew.trans (hw'.mono HB.out.size)) hbl2 HC1.out
             try have g4 := S1.out _ (HB.out.drew.trans (hw'.mono HB.out.size))
             try have g5 := S2.out _ (HB.out.drew.trans (hw'.mono HB.out.size))
             go_simp;with_reducible rfl)
            refine wpG_u preGr 3 (some 73) ?_;refine wpG_u preGr 4 (some 74) ?_;refine wpG_u preGr 5 (some 75) ?_;refine wpG_u preGr 6 (some 76) ?_;refine wpG_u preGr 7 (some 77) ?_ (hy := fun w' hw' => by
             try have g0 := cellB' (HB.out.drew.trans (hw'.mono HB.out.size)) hbl HA0.out
             try have g1 := cellB' (HB.out.drew.trans (hw'.mono HB.out.size)) hbl HA1.out
             try have g2 := cellB' (HB.out.drew.trans (hw'.mono HB.out.size)) hbl2 HC0.out
             try have g3 := cellB' (HB.out.drew.trans (hw'.mono HB.out.size)) hbl2 HC1.out
             try have g4 := S1.out _ (HB.out.drew.trans (hw'.mono HB.out.size))
             try have g5 := S2.out _ (HB.out.drew.trans (hw'.mono HB.out.size))
             go_simp;with_reducible rfl)
            refine wpG_u preGr 8 (some 78) ?_;refine wpG_u preGr 9 (some 79) ?_ (hy := fun w' hw' => by
             try have g0 := cellB' (HB.out.drew.trans (hw'.mono HB.out.size)) hbl HA0.out
             try have g1 := cellB' (HB.out.drew.trans (hw'.mono HB.out.size)) hbl HA1.out
             try have g2 := cellB' (HB.out.drew.trans (hw'.mono HB.out.size)) hbl2 HC0.out
             try have g3 := cellB' (HB.out.drew.trans (hw'.mono HB.out.size)) hbl2 HC1.out
             try have g4 := S1.out _ (HB.out.drew.trans (hw'.mono HB.out.size))
             try have g5 := S2.out _ (HB.out.drew.trans (hw'.mono HB.out.size))
             go_simp;with_reducible rfl)
            refine wpG_u preGr 10 (some 80) ?_;refine wpG_u preGr 11 (some 81) ?_;refine wpG_u preGr 12 (some 82) ?_ (hy := fun w' hw' => by
             try have g0 := cellB' (HB.out.drew.trans (hw'.mono HB.out.size)) hbl HA0.out
             try have g1 := cellB' (HB.out.drew.trans (hw'.mono HB.out.size)) hbl HA1.out
             try have g2 := cellB' (HB.out.drew.trans (hw'.mono HB.out.size)) hbl2 HC0.out
             try have g3 := cellB' (HB.out.drew.trans (hw'.mono HB.out.size)) hbl2 HC1.out
             try have g4 := S1.out _ (HB.out.drew.trans (hw'.mono HB.out.size))
             try have g5 := S2.out _ (HB.out.drew.trans (hw'.mono HB.out.size))
             go_simp;with_reducible rfl)
            refine wpG_u preGr 13 (some 83) ?_;refine wpG_u preGr 14 (some 84) ?_ (hy := fun w' hw' => by
             try have g0 := cellB' (HB.out.drew.trans (hw'.mono HB.out.size)) hbl HA0.out
             try have g1 := cellB' (HB.out.drew.trans (hw'.mono HB.out.size)) hbl HA1.out
             try have g2 := cellB' (HB.out.drew.trans (hw'.mono HB.out.size)) hbl2 HC0.out
             try have g3 := cellB' (HB.out.drew.trans (hw'.mono HB.out.size)) hbl2 HC1.out
             try have g4 := S1.out _ (HB.out.drew.trans (hw'.mono HB.out.size))
             try have g5 := S2.out _ (HB.out.drew.trans (hw'.mono HB.out.size))
             go_simp;with_reducible rfl)
            refine wpG_u preGr 15 (some 85) ?_;refine wpG_u preGr 16 (some 86) ?_;refine wpG_u preGr 17 (some 87) ?_;refine wpG_u preGr 18 (some 88) ?_;refine wpG_u preGr 19 (some 89) ?_;refine wpG_u preGr 20 (some 90) ?_ (hy := fun w' hw' => by
             try have g0 := cellB' (HB.out.drew.trans (hw'.mono HB.out.size)) hbl HA0.out
             try have g1 := cellB' (HB.out.drew.trans (hw'.mono HB.out.size)) hbl HA1.out
             try have g2 := cellB' (HB.out.drew.trans (hw'.mono HB.out.size)) hbl2 HC0.out
             try have g3 := cellB' (HB.out.drew.trans (hw'.mono HB.out.size)) hbl2 HC1.out
             try have g4 := S1.out _ (HB.out.drew.trans (hw'.mono HB.out.size))
             try have g5 := S2.out _ (HB.out.drew.trans (hw'.mono HB.out.size))
             go_simp;with_reducible rfl)
            refine wpG_u preGr 21 (some 91) ?_;refine wpG_u preGr 22 (some 92) ?_ (hy := fun w' hw' => by
             try have g0 := cellB' (HB.out.drew.trans (hw'.mono HB.out.size)) hbl HA0.out
             try have g1 := cellB' (HB.out.drew.trans (hw'.mono HB.out.size)) hbl HA1.out
             try have g2 := cellB' (HB.out.drew.trans (hw'.mono HB.out.size)) hbl2 HC0.out
             try have g3 := cellB' (HB.out.drew.trans (hw'.mono HB.out.size)) hbl2 HC1.out
             try have g4 := S1.out _ (HB.out.drew.trans (hw'.mono HB.out.size))
             try have g5 := S2.out _ (HB.out.drew.trans (hw'.mono HB.out.size))
             go_simp;with_reducible rfl)
            refine wpG_u preGr 23 (some 93) ?_ (hy := fun w' hw' => by
             try have g0 := cellB' (HB.out.drew.trans (hw'.mono HB.out.size)) hbl HA0.out
             try have g1 := cellB' (HB.out.drew.trans (hw'.mono HB.out.size)) hbl HA1.out
             try have g2 := cellB' (HB.out.drew.trans (hw'.mono HB.out.size)) hbl2 HC0.out
             try have g3 := cellB' (HB.out.drew.trans (hw'.mono HB.out.size)) hbl2 HC1.out
             try have g4 := S1.out _ (HB.out.drew.trans (hw'.mono HB.out.size))
             try have g5 := S2.out _ (HB.out.drew.trans (hw'.mono HB.out.size))
             go_simp;with_reducible rfl)
            refine wpG_u preGr 24 (some 94) ?_;refine wpG_u preGr 25 (some 95) ?_;refine wpG_u preGr 26 (some 96) ?_ (hy := fun w' hw' => by
             try have g0 := cellB' (HB.out.drew.trans (hw'.mono HB.out.size)) hbl HA0.out
             try have g1 := cellB' (HB.out.drew.trans (hw'.mono HB.out.size)) hbl HA1.out
             try have g2 := cellB' (HB.out.drew.trans (hw'.mono HB.out.size)) hbl2 HC0.out
             try have g3 := cellB' (HB.out.drew.trans (hw'.mono HB.out.size)) hbl2 HC1.out
             try have g4 := S1.out _ (HB.out.drew.trans (hw'.mono HB.out.size))
             try have g5 := S2.out _ (HB.out.drew.trans (hw'.mono HB.out.size))
             go_simp;with_reducible rfl)
            refine wpG_u preGr 27 (some 97) ?_;refine wpG_u preGr 28 (some 98) ?_ (hy := fun w' hw' => by
             try have g0 := cellB' (HB.out.drew.trans (hw'.mono HB.out.size)) hbl HA0.out
             try have g1 := cellB' (HB.out.drew.trans (hw'.mono HB.out.size)) hbl HA1.out
             try have g2 := cellB' (HB.out.drew.trans (hw'.mono HB.out.size)) hbl2 HC0.out
             try have g3 := cellB' (HB.out.drew.trans (hw'.mono HB.out.size)) hbl2 HC1.out
             try have g4 := S1.out _ (HB.out.drew.trans (hw'.mono HB.out.size))
             try have g5 := S2.out _ (HB.out.drew.trans (hw'.mono HB.out.size))
             go_simp;with_reducible rfl)
            refine wpG_u preGr 29 (some 99) ?_ (hy := fun w' hw' => by
             try have g0 := cellB' (HB.out.drew.trans (hw'.mono HB.out.size)) hbl HA0.out
             try have g1 := cellB' (HB.out.drew.trans (hw'.mono HB.out.size)) hbl HA1.out
             try have g2 := cellB' (HB.out.drew.trans (hw'.mono HB.out.size)) hbl2 HC0.out
             try have g3 := cellB' (HB.out.drew.trans (hw'.mono HB.out.size)) hbl2 HC1.out
             try have g4 := S1.out _ (HB.out.drew.trans (hw'.mono HB.out.size))
             try have g5 := S2.out _ (HB.out.drew.trans (hw'.mono HB.out.size))
             go_simp;with_reducible rfl)
            refine wpG_u preGr 30 (some 100) ?_;refine wpG_u preGr 31 (some 101) ?_;refine wpG_done (by kernel_rfl) ?_ _;have HB3 : Hid (Below w.heap.size w wr.drew) := HB.out.drew;have HRO3 := hd_ (HRO.out.gr (Gr.drew wr));generalize wr.drew = w3 at HB3 HRO3 ⊢;obtain ⟨R, hR, hRl, hRo, hRv⟩ := HRO3.out.own;have HRP := hd_ hR;have HRV := hd_ hRv;have hal : Gr w3 (w3.alloc (.cells #[.int .i64 T, .slice A L C] 69)) := (Gr.refl _).alloc _;obtain ⟨M, hM⟩ : ∃ M, M = (strike ((plain qs).take i) (plain ts)).1.length := ⟨_, rfl⟩;have hM1 : M <= 1000 := by
             have := strike_len ((plain qs).take i) (plain ts);have h5 := congrArg List.length HST.out;rw [List.length_drop] at h5;rw [List.length_take] at this;omega
            rw [<- hM] at hRo;have HMM := hd_ hM;have HRo4 := hd_ (ownsRow_below hRo hal);have HB4 := hd_ (HB3.out.trans (Below.mono hal HB3.out.size));have HRD := hd_ (rd_new w3 [.int .i64 T, .slice A L C] 69 1 2 rfl (by decide));have q0 := cellB' HB3.out hbl HA0.out;have q1 := cellB' HB3.out hbl HA1.out;clear hR hRl hRo hRv hal hM;go_wp2_with (at_builtin; refine wpList_append_gr _ rfl (.tmp 104) (.tmp 109) 26 rfl w.heap.size 69 i0 _ 2 32 Tryz.underlying26 hi hz0 hz1 hz2 rfl (by decide) _ M _ rfl HRo4.out _ 1 _ rfl HRD.out (one_tag T rfl) ?p4 (by decide) HB4.out.size ?_)
            case p4 => omega
            intro vR w5 ho5 hg5;have HRO5 : Hid (RO w w5 w.heap.size vR (strike ((plain qs).take (i + 1)) (plain ts)).1) := by
             show RO _ _ _ _ _;rw [HKEEP.out.1];exact RO.more (t := ⟨T, .slice A L C, l⟩) HRP.out HRV.out HBS.out (by rw [<- HMM.out]; exact ho5)
            have HB5 := hd_ (HB4.out.trans (grown_below HRo4.out HB4.out.size hg5));clear ho5 hg5 q0 q1;go_wp2
            go_roundw
            case rel =>
             have HX := HKEEP.out.2
             first | exact ⟨i + 1, d, _, by omega, hd, by go_num, by go_num, rfl, HX, HRO5.out, HB5.out⟩ | ((repeat apply Exists.intro); exact ⟨⟨i + 1, d, _, by omega, hd, by go_num, by go_num, rfl, HX, HRO5.out, HB5.out⟩, rfl⟩)
            case measure => simp [intOf]; omega
        · have hte : (U == T) = false := by simpa using ht
          have HKEEP : Hid ((strike ((plain qs).take (i + 1)) (plain ts)).1 = (strike ((plain qs).take i) (plain ts)).1 ++ [(T, l)] /\ (strike ((plain qs).take (i + 1)) (plain ts)).2 = (plain ts).drop d) := by
           show _ /\ _;rw [HSN.out, HDR.out];unfold strO strR;simp only;rw [if_neg (fun e => ht (congrArg Prod.fst e)), if_neg (fun e => ht (congrArg Prod.fst e))];exact ⟨rfl, rfl⟩
          clear ht;go_upto_region 20 with fail
          refine wp_region_G 32 Gr (by kernel_rfl) ?_;refine wpG_u preGr 0 (some 70) ?_;refine wpG_u preGr 1 (some 71) ?_;refine wpG_u preGr 2 (some 72) ?_ (hy := fun w' hw' => by
           try have g0 := cellB' (HB.out.drew.trans (hw'.mono HB.out.size)) hbl HA0.out
           try have g1 := cellB' (HB.out.drew.trans (hw'.mono HB.out.size)) hbl HA1.out
           try have g2 := cellB' (HB.out.drew.trans (hw'.mono HB.out.size)) hbl2 HC0.out
           try have g3 := cellB' (HB.out.drew.trans (hw'.mono HB.out.size)) hbl2 HC1.out
           try have g4 := S1.out _ (HB.out.drew.trans (hw'.mono HB.out.size))
           try have g5 := S2.out _ (HB.out.drew.trans (hw'.mono HB.out.size))
           go_simp;with_reducible rfl)
          refine wpG_u preGr 3 (some 73) ?_;refine wpG_u preGr 4 (some 74) ?_;refine wpG_u preGr 5 (some 75) ?_;refine wpG_u preGr 6 (some 76) ?_;refine wpG_u preGr 7 (some 77) ?_ (hy := fun w' hw' => by
           try have g0 := cellB' (HB.out.drew.trans (hw'.mono HB.out.size)) hbl HA0.out
           try have g1 := cellB' (HB.out.drew.trans (hw'.mono HB.out.size)) hbl HA1.out
           try have g2 := cellB' (HB.out.drew.trans (hw'.mono HB.out.size)) hbl2 HC0.out
           try have g3 := cellB' (HB.out.drew.trans (hw'.mono HB.out.size)) hbl2 HC1.out
           try have g4 := S1.out _ (HB.out.drew.trans (hw'.mono HB.out.size))
           try have g5 := S2.out _ (HB.out.drew.trans (hw'.mono HB.out.size))
           go_simp;with_reducible rfl)
          refine wpG_u preGr 8 (some 78) ?_;refine wpG_u preGr 9 (some 79) ?_ (hy := fun w' hw' => by
           try have g0 := cellB' (HB.out.drew.trans (hw'.mono HB.out.size)) hbl HA0.out
           try have g1 := cellB' (HB.out.drew.trans (hw'.mono HB.out.size)) hbl HA1.out
           try have g2 := cellB' (HB.out.drew.trans (hw'.mono HB.out.size)) hbl2 HC0.out
           try have g3 := cellB' (HB.out.drew.trans (hw'.mono HB.out.size)) hbl2 HC1.out
           try have g4 := S1.out _ (HB.out.drew.trans (hw'.mono HB.out.size))
           try have g5 := S2.out _ (HB.out.drew.trans (hw'.mono HB.out.size))
           go_simp;with_reducible rfl)
          refine wpG_u preGr 10 (some 80) ?_;refine wpG_u preGr 11 (some 81) ?_;refine wpG_u preGr 12 (some 82) ?_ (hy := fun w' hw' => by
           try have g0 := cellB' (HB.out.drew.trans (hw'.mono HB.out.size)) hbl HA0.out
           try have g1 := cellB' (HB.out.drew.trans (hw'.mono HB.out.size)) hbl HA1.out
           try have g2 := cellB' (HB.out.drew.trans (hw'.mono HB.out.size)) hbl2 HC0.out
           try have g3 := cellB' (HB.out.drew.trans (hw'.mono HB.out.size)) hbl2 HC1.out
           try have g4 := S1.out _ (HB.out.drew.trans (hw'.mono HB.out.size))
           try have g5 := S2.out _ (HB.out.drew.trans (hw'.mono HB.out.size))
           go_simp;with_reducible rfl)
          refine wpG_u preGr 13 (some 83) ?_;refine wpG_u preGr 14 (some 84) ?_ (hy := fun w' hw' => by
           try have g0 := cellB' (HB.out.drew.trans (hw'.mono HB.out.size)) hbl HA0.out
           try have g1 := cellB' (HB.out.drew.trans (hw'.mono HB.out.size)) hbl HA1.out
           try have g2 := cellB' (HB.out.drew.trans (hw'.mono HB.out.size)) hbl2 HC0.out
           try have g3 := cellB' (HB.out.drew.trans (hw'.mono HB.out.size)) hbl2 HC1.out
           try have g4 := S1.out _ (HB.out.drew.trans (hw'.mono HB.out.size))
           try have g5 := S2.out _ (HB.out.drew.trans (hw'.mono HB.out.size))
           go_simp;with_reducible rfl)
          refine wpG_u preGr 15 (some 85) ?_;refine wpG_u preGr 16 (some 86) ?_;refine wpG_u preGr 17 (some 87) ?_;refine wpG_p preGr 18 (some 88) ?_;refine wpG_p preGr 19 (some 89) ?_;refine wpG_p preGr 20 (some 90) ?_;refine wpG_p preGr 21 (some 91) ?_;refine wpG_p preGr 22 (some 92) ?_;refine wpG_p preGr 23 (some 93) ?_;refine wpG_p preGr 24 (some 94) ?_;refine wpG_p preGr 25 (some 95) ?_;refine wpG_p preGr 26 (some 96) ?_;refine wpG_p preGr 27 (some 97) ?_;refine wpG_p preGr 28 (some 98) ?_;refine wpG_p preGr 29 (some 99) ?_;refine wpG_p preGr 30 (some 100) ?_;refine wpG_u preGr 31 (some 101) ?_;refine wpG_done (by kernel_rfl) ?_ _;have HB3 : Hid (Below w.heap.size w wr.drew) := HB.out.drew;have HRO3 := hd_ (HRO.out.gr (Gr.drew wr));generalize wr.drew = w3 at HB3 HRO3 ⊢;obtain ⟨R, hR, hRl, hRo, hRv⟩ := HRO3.out.own;have HRP := hd_ hR;have HRV := hd_ hRv;have hal : Gr w3 (w3.alloc (.cells #[.int .i64 T, .slice A L C] 69)) := (Gr.refl _).alloc _;obtain ⟨M, hM⟩ : ∃ M, M = (strike ((plain qs).take i) (plain ts)).1.length := ⟨_, rfl⟩;have hM1 : M <= 1000 := by
           have := strike_len ((plain qs).take i) (plain ts);have h5 := congrArg List.length HST.out;rw [List.length_drop] at h5;rw [List.length_take] at this;omega
          rw [<- hM] at hRo;have HMM := hd_ hM;have HRo4 := hd_ (ownsRow_below hRo hal);have HB4 := hd_ (HB3.out.trans (Below.mono hal HB3.out.size));have HRD := hd_ (rd_new w3 [.int .i64 T, .slice A L C] 69 1 2 rfl (by decide));have q0 := cellB' HB3.out hbl HA0.out;have q1 := cellB' HB3.out hbl HA1.out;clear hR hRl hRo hRv hal hM;go_wp2_with (at_builtin; refine wpList_append_gr _ rfl (.tmp 104) (.tmp 109) 26 rfl w.heap.size 69 i0 _ 2 32 Tryz.underlying26 hi hz0 hz1 hz2 rfl (by decide) _ M _ rfl HRo4.out _ 1 _ rfl HRD.out (one_tag T rfl) ?p4 (by decide) HB4.out.size ?_)
          case p4 => omega
          intro vR w5 ho5 hg5;have HRO5 : Hid (RO w w5 w.heap.size vR (strike ((plain qs).take (i + 1)) (plain ts)).1) := by
           show RO _ _ _ _ _;rw [HKEEP.out.1];exact RO.more (t := ⟨T, .slice A L C, l⟩) HRP.out HRV.out HBS.out (by rw [<- HMM.out]; exact ho5)
          have HB5 := hd_ (HB4.out.trans (grown_below HRo4.out HB4.out.size hg5));clear ho5 hg5 q0 q1;go_wp2
          go_roundw
          case rel =>
           have HX := HKEEP.out.2
           first | exact ⟨i + 1, d, _, by omega, hd, by go_num, by go_num, rfl, HX, HRO5.out, HB5.out⟩ | ((repeat apply Exists.intro); exact ⟨⟨i + 1, d, _, by omega, hd, by go_num, by go_num, rfl, HX, HRO5.out, HB5.out⟩, rfl⟩)
          case measure => simp [intOf]; omega
      · obtain rfl : d = ln := by omega
        have HKEEP : Hid ((strike ((plain qs).take (i + 1)) (plain ts)).1 = (strike ((plain qs).take i) (plain ts)).1 ++ [(T, l)] /\ (strike ((plain qs).take (i + 1)) (plain ts)).2 = (plain ts).drop d) := by
         show _ /\ _;have e : (plain ts).drop d = [] := List.drop_of_length_le (by rw [plain_length]; omega);rw [HSN.out, e];exact ⟨rfl, rfl⟩
        have hdd : decide ((d : Int) < (d : Int)) = false := by simp
        go_upto_region 20 with fail
        refine wp_region_G 32 Gr (by kernel_rfl) ?_;refine wpG_u preGr 0 (some 70) ?_;refine wpG_u preGr 1 (some 71) ?_;refine wpG_u preGr 2 (some 72) ?_;refine wpG_u preGr 3 (some 73) ?_;refine wpG_u preGr 4 (some 74) ?_;refine wpG_p preGr 5 (some 75) ?_;refine wpG_p preGr 6 (some 76) ?_;refine wpG_p preGr 7 (some 77) ?_;refine wpG_p preGr 8 (some 78) ?_;refine wpG_p preGr 9 (some 79) ?_;refine wpG_p preGr 10 (some 80) ?_;refine wpG_p preGr 11 (some 81) ?_;refine wpG_p preGr 12 (some 82) ?_;refine wpG_p preGr 13 (some 83) ?_;refine wpG_p preGr 14 (some 84) ?_;refine wpG_p preGr 15 (some 85) ?_;refine wpG_u preGr 16 (some 86) ?_;refine wpG_u preGr 17 (some 87) ?_;refine wpG_p preGr 18 (some 88) ?_;refine wpG_p preGr 19 (some 89) ?_;refine wpG_p preGr 20 (some 90) ?_;refine wpG_p preGr 21 (some 91) ?_;refine wpG_p preGr 22 (some 92) ?_;refine wpG_p preGr 23 (some 93) ?_;refine wpG_p preGr 24 (some 94) ?_;refine wpG_p preGr 25 (some 95) ?_;refine wpG_p preGr 26 (some 96) ?_;refine wpG_p preGr 27 (some 97) ?_;refine wpG_p preGr 28 (some 98) ?_;refine wpG_p preGr 29 (some 99) ?_;refine wpG_p preGr 30 (some 100) ?_;refine wpG_u preGr 31 (some 101) ?_;refine wpG_done (by kernel_rfl) ?_ _;have HB3 : Hid (Below w.heap.size w wr.drew) := HB.out.drew;have HRO3 := hd_ (HRO.out.gr (Gr.drew wr));generalize wr.drew = w3 at HB3 HRO3 ⊢;obtain ⟨R, hR, hRl, hRo, hRv⟩ := HRO3.out.own;have HRP := hd_ hR;have HRV := hd_ hRv;have hal : Gr w3 (w3.alloc (.cells #[.int .i64 T, .slice A L C] 69)) := (Gr.refl _).alloc _;obtain ⟨M, hM⟩ : ∃ M, M = (strike ((plain qs).take i) (plain ts)).1.length := ⟨_, rfl⟩;have hM1 : M <= 1000 := by
         have := strike_len ((plain qs).take i) (plain ts);have h5 := congrArg List.length HST.out;rw [List.length_drop] at h5;rw [List.length_take] at this;omega
        rw [<- hM] at hRo;have HMM := hd_ hM;have HRo4 := hd_ (ownsRow_below hRo hal);have HB4 := hd_ (HB3.out.trans (Below.mono hal HB3.out.size));have HRD := hd_ (rd_new w3 [.int .i64 T, .slice A L C] 69 1 2 rfl (by decide));have q0 := cellB' HB3.out hbl HA0.out;have q1 := cellB' HB3.out hbl HA1.out;clear hR hRl hRo hRv hal hM;go_wp2_with (at_builtin; refine wpList_append_gr _ rfl (.tmp 104) (.tmp 109) 26 rfl w.heap.size 69 i0 _ 2 32 Tryz.underlying26 hi hz0 hz1 hz2 rfl (by decide) _ M _ rfl HRo4.out _ 1 _ rfl HRD.out (one_tag T rfl) ?p4 (by decide) HB4.out.size ?_)
        case p4 => omega
        intro vR w5 ho5 hg5;have HRO5 : Hid (RO w w5 w.heap.size vR (strike ((plain qs).take (i + 1)) (plain ts)).1) := by
         show RO _ _ _ _ _;rw [HKEEP.out.1];exact RO.more (t := ⟨T, .slice A L C, l⟩) HRP.out HRV.out HBS.out (by rw [<- HMM.out]; exact ho5)
        have HB5 := hd_ (HB4.out.trans (grown_below HRo4.out HB4.out.size hg5));clear ho5 hg5 q0 q1;go_wp2
        go_roundw
        case rel =>
         have HX := HKEEP.out.2
         first | exact ⟨i + 1, d, _, by omega, hd, by go_num, by go_num, rfl, HX, HRO5.out, HB5.out⟩ | ((repeat apply Exists.intro); exact ⟨⟨i + 1, d, _, by omega, hd, by go_num, by go_num, rfl, HX, HRO5.out, HB5.out⟩, rfl⟩)
        case measure => simp [intOf]; omega
    · obtain rfl : i = n := by omega
      have e : (plain qs).take i = plain qs := List.take_of_length_le (by rw [plain_length]; omega);rw [e] at HST HRO
      by_cases hdl : d < ln
      · have HANS : Hid (lrn (plain qs) 4 (plain ts) = (plain qs, false)) := HLR.out.trans (if_neg fun h => by
         have h5 := congrArg List.length HST.out;rw [h, List.length_drop, plain_length] at h5;simp at h5;omega)
        have hdl2 : (d : Int) < (ln : Int) := by omega
        clear e;go_wp2
        go_ret2
        exact RLRes.of _ false ao i c qs HANS.out rfl (.inl ⟨rfl, rfl, rfl⟩) HB.out
      · obtain rfl : d = ln := by omega
        have HANS : Hid (lrn (plain qs) 4 (plain ts) = ((strike (plain qs) (plain ts)).1, true)) := HLR.out.trans (if_pos (by rw [HST.out]; exact List.drop_of_length_le (by rw [plain_length]; omega)));obtain ⟨a, m, c', us, ev, hp, htr⟩ := HRO.out.tr (v0 := .slice ao i c) (n0 := i) (qs := qs) HB.out;subst ev;have HP := hd_ hp;have HTR := hd_ htr;clear hp htr e;go_wp2
        go_ret2
        exact RLRes.of _ true a m c' us HANS.out HP.out HTR.out HB.out
 have e4 : (code == 4) = false := by simpa using h4
 have e4' : (code != 4) = true := by simpa using h4
 have HN : Hid (lrn (plain qs) code (plain ts) = (plain qs, false)) := lrn_none (.inr ⟨h3, h4⟩);clear h3 h4;go_enter Tryz.func75, Tryz.ntmps75
 go_wp2
 go_ret2
 exact RLRes.of _ false ao n c qs HN.out rfl (.inl ⟨rfl, rfl, rfl⟩) (Below.refl _ _)
def RRes (x : Int × List PT) (w : World) (e : Ending) (w' : World) : Prop := ∃ a m c us, e = .returned (.tuple #[.int .i64 x.1, .slice a m c]) /\ plain us = x.2 /\ TR w' (.slice a m c) m us /\ Below w.heap.size w w'
theorem RRes.of {x : Int × List PT} {w w' : World} (k : Int) (l : List PT) (a : Option Addr) (m c : Nat) (us : List Tg) (h : x = (k, l)) (h1 : plain us = l) (h2 : TR w' (.slice a m c) m us) (h3 : Below w.heap.size w w') : RRes x w (.returned (.tuple #[.int .i64 k, .slice a m c])) w' := by
 subst h;exact ⟨a, m, c, us, rfl, h1, h2, h3⟩
set_option maxRecDepth 20000 in
set_option maxHeartbeats 8000000 in
theorem ranswer_any (ra : Option Addr) (rn rc : Nat) (rs : List Ru) (ao : Option Addr) (n c : Nat) (ts : List Tg) (naks most : Int) (w : World) (hrr : RR w (.slice ra rn rc) rn rs) (hr : TR w (.slice ao n c) n ts) (hn : n <= 1000) :
 Calls Tryz.prog 26 #[.slice ra rn rc, .slice ao n c, .int .i64 naks, .int .i64 most] w (RRes (ans rs (plain ts) naks most) w) := by
 obtain ⟨i0, hi, hz0, hz1, hz2⟩ := info_parts infoT;have hl := hr.len;have hlr := hrr.len;have hpl : (plain ts).length = n := by rw [plain_length]; exact hl
 have HRR := hd_ hrr;have HR := hd_ hr;have AR := hd_ (are_any ra rn rc rs w hrr);have hcc : n <= c /\ c <= maxLen := by
  obtain ⟨_, _, es, h1, h2⟩ := hr.shape;simp only [Value.slice.injEq] at es;obtain ⟨_, _, rfl⟩ := es;exact ⟨h1, h2⟩
 obtain ⟨hc1, hc2⟩ := hcc;unfold maxLen at hc2;clear hrr hr
 by_cases ha : areR rs
 · rw [decide_eq_true ha] at AR;have HA := hd_ ha;have hrn : rn <= 16 := by rw [<- hlr]; exact ha.1
   clear ha;go_enter Tryz.func26, Tryz.ntmps26
   go_wp2_with fail
   refine AR.out.mono ?_;rintro e w1 ⟨rfl, hb1⟩;have HD0 : Hid (D3 w [] [] [] (.slice none 0 0) (.slice none 0 0) (.slice none 0 0) w1) := (D3.zero w).gr hb1;clear hb1 AR;go_wp2
   go_loopw [10, 11, 12, 13] (fun s10 s11 s12 iv wr => ∃ (i : Nat) (rv bv nv : Value), i <= n /\ iv = .int .i64 (i : Int) /\ rv = s10 /\ bv = s11 /\ nv = s12 /\ D3 w (rejs rs [] ((plain ts).take i)) ((bads rs [] ((plain ts).take i)).map (·.1)) ((bads rs [] ((plain ts).take i)).map (·.2)) rv bv nv wr) (fun _ _ _ iv _ => n - (intOf iv).toNat)
   case atStart => exact ⟨0, _, _, _, Nat.zero_le _, rfl, rfl, rfl, rfl, HD0.out⟩
   case round =>
    clear HD0;obtain ⟨i, rv, bv, nv, hin, rfl, rfl, rfl, rfl, hd⟩ := hrel;have HD := hd_ hd;have HB := hd_ hd.low;clear hd
    by_cases hlt : i < n
    · obtain ⟨b, o, rfl, hbl, hc⟩ := HR.out.cells (by omega);obtain ⟨hc0, hc1'⟩ := hc i (by omega);have HV := hd_ (HR.out.val i (by omega));obtain ⟨A, L, C, hv, hL, hLC, hCm⟩ := HV.out.sl;rw [hv] at hc1';obtain ⟨T, hT⟩ : ∃ T, T = ts[i].typ := ⟨_, rfl⟩;rw [<- hT] at hc0;obtain ⟨l, hlq⟩ : ∃ l, l = ts[i].l := ⟨_, rfl⟩;have HBS : Hid (Bs w (.slice A L C) l) := by show Bs _ _ _; rw [hlq, <- hv]; exact HV.out
      have hll : l.length = L := by rw [hlq]; exact hL
      have HLL := hd_ hll;have HTK : Hid ((plain ts).take (i + 1) = (plain ts).take i ++ [(T, l)]) := by
       show _ = _;rw [List.take_succ_eq_append_getElem (by rw [plain_length]; omega), plain_get _ _ (by omega), hT, hlq]
      have HC0 := hd_ hc0;have HC1 := hd_ hc1';have hin2 : (i : Int) < (n : Int) := by omega
      have k0 := cellB' HB.out hbl hc0;have k1 := cellB' HB.out hbl hc1';have RU := hd_ (rule_any ra rn rc rs T A L C l hll wr (HRR.out.below HB.out));clear hv hL hT hc hc0 hc1' hlq hll;go_wp2_with fail
      refine RU.out.mono ?_;rintro e w2 ⟨(⟨k, hk, r, rfl, hrk, hro⟩ | ⟨rfl, hro⟩), hb2⟩
      · have HB2 := hd_ (HB.out.trans (hb2.mono HB.out.size));have HD2 := hd_ (HD.out.gr hb2);have HRO := hd_ hro;have HRK := hd_ hrk;have hk0 : ¬ (k : Int) < 0 := by omega
        have hk0d : decide ((k : Int) < 0) = false := decide_eq_false hk0;have hkr : k < rn := by omega
        have hkr2 : (k : Int) < (rn : Int) := by omega
        obtain ⟨a', hsl, htu⟩ := TR.upto HR.out i (by omega);have HSL := hd_ hsl;have HTU := hd_ htu;obtain ⟨q, hq⟩ : ∃ q, q = hasT ((plain ts).take i) T := ⟨_, rfl⟩;have HA2 := hd_ (fun (w' : World) (hw : Below w.heap.size w w') => has_any a' i c (ts.take i) T w' (htu.below hw) (by omega));rw [plain_take, <- hq] at HA2;have HQ := hd_ hq;clear hb2 k0 k1 RU hro hrk hsl htu hq;go_upto_region 8 with fail
        refine wp_region_G 13 Gr (by kernel_rfl) ?_;refine wpG_u preGr 0 (some 31) ?_;refine wpG_u preGr 1 (some 32) ?_;refine wpG_u preGr 2 (some 33) ?_;refine wpG_u preGr 3 (some 34) ?_;refine wpG_u preGr 4 (some 35) ?_;refine wpG_u preGr 5 (some 36) ?_ (hy := fun w' hw' => by
         try have g0 := cellB' (HB2.out.drew.trans (hw'.mono HB2.out.size)) hbl HC0.out
         try have g1 := HSL.out
         go_simp;with_reducible rfl)
        refine wpG_u preGr 6 (some 37) ?_;refine wpG_u preGr 7 (some 38) ?_;refine wpG_u preGr 8 (some 39) ?_ (hy := fun w' hw' => by
         try have g0 := cellB' (HB2.out.drew.trans (hw'.mono HB2.out.size)) hbl HC0.out
         try have g1 := HSL.out
         go_simp;with_reducible rfl)
        refine wpG_u preGr 9 (some 40) ?_;refine wpG_u preGr 10 (some 41) ?_ (hy := fun w' hw' => by
         try have g0 := cellB' (HB2.out.drew.trans (hw'.mono HB2.out.size)) hbl HC0.out
         try have g1 := HSL.out
         go_simp;with_reducible rfl)
        refine wpG_one (i := 11) rfl (by kernel_rfl) (by rfl) ?_;go_simp;refine (HA2.out _ HB2.out.drew).mono ?_;rintro e w3 ⟨rfl, rfl⟩;refine ⟨Gr.refl _, ?_⟩;try simp only [Act.put, aq1, aq2, aq3]
        refine wpG_u preGr 12 (some 43) ?_;refine wpG_done (by kernel_rfl) ?_ _;have HB3 : Hid (Below w.heap.size w w2.drew) := HB2.out.drew;have HD3 : Hid (D3 w (rejs rs [] ((plain ts).take i)) ((bads rs [] ((plain ts).take i)).map (·.1)) ((bads rs [] ((plain ts).take i)).map (·.2)) rv bv nv w2.drew) := HD2.out.gr (Gr.drew w2);generalize w2.drew = w3 at HB3 HD3 ⊢;clear HD2 HB2 HD HB;cases q with
        | true =>
         have HNR : Hid (rejs rs [] ((plain ts).take (i + 1)) = rejs rs [] ((plain ts).take i) ++ [(T, l)]) := by
          show _ = _;rw [HTK.out, rejs_snoc, List.nil_append, <- HQ.out, Bool.or_true, if_pos rfl]
         have HNB : Hid (bads rs [] ((plain ts).take (i + 1)) = bads rs [] ((plain ts).take i)) := by
          show _ = _;rw [HTK.out, bads_snoc, List.nil_append, <- HQ.out];unfold badO;rw [HRO.out];simp
         obtain ⟨RR, hR, hRl, hRo, hRv⟩ := HD3.out.r.own;have HRP := hd_ hR;have HRV := hd_ hRv;have hal : Gr w3 (w3.alloc (.cells #[.int .i64 T, .slice A L C] 69)) := (Gr.refl _).alloc _;have HD4 := hd_ (HD3.out.gr hal);obtain ⟨M, hM⟩ : ∃ M, M = (rejs rs [] ((plain ts).take i)).length := ⟨_, rfl⟩;have hM1 : M <= 1000 := by rw [hM]; exact Nat.le_trans (rejs_len rs _ []) (by rw [List.length_take]; omega)
         rw [<- hM] at hRo;have HMM := hd_ hM;have HRo4 := hd_ (ownsRow_below hRo hal);have HSZ4 : Hid (w.heap.size <= (w3.alloc (.cells #[.int .i64 T, .slice A L C] 69)).heap.size) := Nat.le_trans HB3.out.size hal.size;have q0 := cellB' HB3.out hbl HC0.out;have q1 := cellB' HB3.out hbl HC1.out;clear hR hRl hRo hRv hal hM;go_wp2_with (at_builtin; refine wpList_append_where _ rfl (.tmp 44) (.tmp 49) 26 rfl w.heap.size 69 i0 _ 2 32 Tryz.underlying26 hi hz0 hz1 hz2 rfl (by decide) rv M (flat RR) rfl HRo4.out ⟨w3.heap.size, 0, none⟩ 1 1 [.int .i64 T, .slice A L C] rfl rfl (cells_new w3 [.int .i64 T, .slice A L C] 69) (one_tag T rfl) ?p1 ?p2 HSZ4.out ?_)
         case p1 => unfold maxLen; omega
         case p2 => omega
         intro vR w5 ho5 hg5 hw5;have HD5 := hd_ (D3.addR (t := ⟨T, .slice A L C, l⟩) HD4.out HRP.out HRV.out (by rw [<- HMM.out]; exact HRo4.out) HBS.out (by rw [<- HMM.out]; exact ho5) hg5 (fun k hk => by rw [World.size_alloc]; exact hw5 k hk));clear ho5 hg5 hw5 q0 q1 HD4 HRo4 HRP HRV;go_wp2
         go_roundw
         case rel =>
          have HX : D3 w (rejs rs [] ((plain ts).take (i + 1))) ((bads rs [] ((plain ts).take (i + 1))).map (·.1)) ((bads rs [] ((plain ts).take (i + 1))).map (·.2)) vR bv nv w5 := by
           rw [HNR.out, HNB.out];exact HD5.out
          first | exact ⟨i + 1, _, _, _, by omega, by go_num, rfl, rfl, rfl, HX⟩ | ((repeat apply Exists.intro); exact ⟨⟨i + 1, _, _, _, by omega, by go_num, rfl, rfl, rfl, HX⟩, rfl⟩)
         case measure => simp [intOf]; omega
        | false =>
         have HNR : Hid (rejs rs [] ((plain ts).take (i + 1)) = rejs rs [] ((plain ts).take i)) := by
          show _ = _;rw [HTK.out, rejs_snoc, List.nil_append, <- HQ.out, HRO.out];simp
         have HIS : Hid (isR r) := by show isR r; rw [HRK.out]; exact HA.out.2.1 _ (List.getElem_mem hk)
         have hrs := (ruleOf_some HRO.out).2.2;have hL4 : L <= 4 := by
          have h1 := HIS.out.2.2.2.1;rw [hrs] at h1;have h2 : ((l.length : Nat) : Int) <= 4 := h1;rw [HLL.out] at h2;omega
         obtain ⟨rb, ro, rfl, hrbl, hrc⟩ := HRR.out.cells (by omega);have hrck := hrc k hk;rw [<- HRK.out] at hrck;have HRC := hd_ hrck;obtain ⟨tk, htk⟩ : ∃ t, t = takes r (num (T, l)) := ⟨_, rfl⟩;have NU := hd_ (fun (w' : World) (hw : Below w.heap.size w w') => number_any T A L C l HLL.out hL4 w' (HBS.out.below hw));have TKS := hd_ (fun (w' : World) => rtakes_any r (num (T, l)) w');rw [<- htk] at TKS;have HNB : Hid (bads rs [] ((plain ts).take (i + 1)) = bads rs [] ((plain ts).take i) ++ (if tk then [] else [((T, l), goodO r)])) := by
          show _ = _;rw [HTK.out, bads_snoc, List.nil_append, <- HQ.out, htk];unfold badO;rw [HRO.out];simp
         generalize num (T, l) = N at NU TKS;clear hrs hrc hrck htk;go_upto_region 10 with fail
         refine wp_region_G 11 Gr (by kernel_rfl) ?_;refine wpG_u preGr 0 (some 51) ?_;refine wpG_u preGr 1 (some 52) ?_;refine wpG_u preGr 2 (some 53) ?_ (hy := fun w' hw' => by
          try have g0 := cellB' (HB3.out.drew.trans (hw'.mono HB3.out.size)) hbl HC0.out
          try have g1 := cellB' (HB3.out.drew.trans (hw'.mono HB3.out.size)) hbl HC1.out
          try have g2 := cellB' (HB3.out.drew.trans (hw'.mono HB3.out.size)) hrbl HRC.out.1
          try have g3 := cellB' (HB3.out.drew.trans (hw'.mono HB3.out.size)) hrbl HRC.out.2.1
          try have g4 := cellB' (HB3.out.drew.trans (hw'.mono HB3.out.size)) hrbl HRC.out.2.2.1
          try have g5 := cellB' (HB3.out.drew.trans (hw'.mono HB3.out.size)) hrbl HRC.out.2.2.2.1
          try have g6 := cellB' (HB3.out.drew.trans (hw'.mono HB3.out.size)) hrbl HRC.out.2.2.2.2.1
          try have g7 := cellB' (HB3.out.drew.trans (hw'.mono HB3.out.size)) hrbl HRC.out.2.2.2.2.2.1
          try have g8 := cellB' (HB3.out.drew.trans (hw'.mono HB3.out.size)) hrbl HRC.out.2.2.2.2.2.2
          go_simp;with_reducible rfl)
         refine wpG_u preGr 3 (some 54) ?_ (hy := fun w' hw' => by
          try have g0 := cellB' (HB3.out.drew.trans (hw'.mono HB3.out.size)) hbl HC0.out
          try have g1 := cellB' (HB3.out.drew.trans (hw'.mono HB3.out.size)) hbl HC1.out
          try have g2 := cellB' (HB3.out.drew.trans (hw'.mono HB3.out.size)) hrbl HRC.out.1
          try have g3 := cellB' (HB3.out.drew.trans (hw'.mono HB3.out.size)) hrbl HRC.out.2.1
          try have g4 := cellB' (HB3.out.drew.trans (hw'.mono HB3.out.size)) hrbl HRC.out.2.2.1
          try have g5 := cellB' (HB3.out.drew.trans (hw'.mono HB3.out.size)) hrbl HRC.out.2.2.2.1
          try have g6 := cellB' (HB3.out.drew.trans (hw'.mono HB3.out.size)) hrbl HRC.out.2.2.2.2.1
          try have g7 := cellB' (HB3.out.drew.trans (hw'.mono HB3.out.size)) hrbl HRC.out.2.2.2.2.2.1
          try have g8 := cellB' (HB3.out.drew.trans (hw'.mono HB3.out.size)) hrbl HRC.out.2.2.2.2.2.2
          go_simp;with_reducible rfl)
         refine wpG_u preGr 4 (some 55) ?_;refine wpG_u preGr 5 (some 56) ?_;refine wpG_u preGr 6 (some 57) ?_ (hy := fun w' hw' => by
          try have g0 := cellB' (HB3.out.drew.trans (hw'.mono HB3.out.size)) hbl HC0.out
          try have g1 := cellB' (HB3.out.drew.trans (hw'.mono HB3.out.size)) hbl HC1.out
          try have g2 := cellB' (HB3.out.drew.trans (hw'.mono HB3.out.size)) hrbl HRC.out.1
          try have g3 := cellB' (HB3.out.drew.trans (hw'.mono HB3.out.size)) hrbl HRC.out.2.1
          try have g4 := cellB' (HB3.out.drew.trans (hw'.mono HB3.out.size)) hrbl HRC.out.2.2.1
          try have g5 := cellB' (HB3.out.drew.trans (hw'.mono HB3.out.size)) hrbl HRC.out.2.2.2.1
          try have g6 := cellB' (HB3.out.drew.trans (hw'.mono HB3.out.size)) hrbl HRC.out.2.2.2.2.1
          try have g7 := cellB' (HB3.out.drew.trans (hw'.mono HB3.out.size)) hrbl HRC.out.2.2.2.2.2.1
          try have g8 := cellB' (HB3.out.drew.trans (hw'.mono HB3.out.size)) hrbl HRC.out.2.2.2.2.2.2
          go_simp;with_reducible rfl)
         refine wpG_u preGr 7 (some 58) ?_ (hy := fun w' hw' => by
          try have g0 := cellB' (HB3.out.drew.trans (hw'.mono HB3.out.size)) hbl HC0.out
          try have g1 := cellB' (HB3.out.drew.trans (hw'.mono HB3.out.size)) hbl HC1.out
          try have g2 := cellB' (HB3.out.drew.trans (hw'.mono HB3.out.size)) hrbl HRC.out.1
          try have g3 := cellB' (HB3.out.drew.trans (hw'.mono HB3.out.size)) hrbl HRC.out.2.1
          try have g4 := cellB' (HB3.out.drew.trans (hw'.mono HB3.out.size)) hrbl HRC.out.2.2.1
          try have g5 := cellB' (HB3.out.drew.trans (hw'.mono HB3.out.size)) hrbl HRC.out.2.2.2.1
          try have g6 := cellB' (HB3.out.drew.trans (hw'.mono HB3.out.size)) hrbl HRC.out.2.2.2.2.1
          try have g7 := cellB' (HB3.out.drew.trans (hw'.mono HB3.out.size)) hrbl HRC.out.2.2.2.2.2.1
          try have g8 := cellB' (HB3.out.drew.trans (hw'.mono HB3.out.size)) hrbl HRC.out.2.2.2.2.2.2
          go_simp;with_reducible rfl)
         refine wpG_one (i := 8) rfl (by kernel_rfl) (by rfl) ?_;go_simp;refine (NU.out _ HB3.out.drew).mono ?_;rintro e w4 ⟨rfl, hb4⟩;refine ⟨hb4, ?_⟩;have HQ4 : Hid (Gr w3 w4) := (Gr.drew w3).trans hb4;clear hb4;try simp only [Act.put, aq1, aq2, aq3]
         refine wpG_one (i := 9) rfl (by kernel_rfl) (by rfl) ?_;go_simp;refine (TKS.out _).mono ?_;rintro e w5 ⟨rfl, hb5⟩;refine ⟨hb5, ?_⟩;have HQ5 : Hid (Gr w3 w5) := HQ4.out.trans hb5;clear hb5;try simp only [Act.put, aq1, aq2, aq3]
         refine wpG_u preGr 10 (some 61) ?_ (hy := fun w' hw' => by
          go_simp;with_reducible rfl)
         refine wpG_done (by kernel_rfl) ?_ _;have HB5 := hd_ (HB3.out.trans (Below.mono HQ5.out HB3.out.size));have HD5' := hd_ (HD3.out.gr HQ5.out);clear HD3 HB3 HQ5 HQ4;obtain ⟨w3, hw3⟩ : ∃ x, x = w5 := ⟨_, rfl⟩;subst hw3;have HB3 := HB5;have HD3 := HD5';clear HB5 HD5';cases tk with
         | true =>
          go_wp2
          go_roundw
          case rel =>
           have HX : D3 w (rejs rs [] ((plain ts).take (i + 1))) ((bads rs [] ((plain ts).take (i + 1))).map (·.1)) ((bads rs [] ((plain ts).take (i + 1))).map (·.2)) rv bv nv w3 := by
            rw [HNR.out, HNB.out, if_pos rfl, List.append_nil];exact HD3.out
           first | exact ⟨i + 1, _, _, _, by omega, by go_num, rfl, rfl, rfl, HX⟩ | ((repeat apply Exists.intro); exact ⟨⟨i + 1, _, _, _, by omega, by go_num, rfl, rfl, rfl, HX⟩, rfl⟩)
          case measure => simp [intOf]; omega
         | false =>
          obtain ⟨RB, hR, hRl, hRo, hRv⟩ := HD3.out.b.own;have HRP := hd_ hR;have HRV := hd_ hRv;have hal : Gr w3 (w3.alloc (.cells #[.int .i64 T, .slice A L C] 69)) := (Gr.refl _).alloc _;have HD4 := hd_ (HD3.out.gr hal);obtain ⟨M, hM⟩ : ∃ M, M = ((bads rs [] ((plain ts).take i)).map (·.1)).length := ⟨_, rfl⟩;have hM1 : M <= 1000 := by rw [hM]; exact by rw [List.length_map]; exact Nat.le_trans (bads_len rs _ []) (by rw [List.length_take]; omega)
          rw [<- hM] at hRo;have HMM := hd_ hM;have HRo4 := hd_ (ownsRow_below hRo hal);have HSZ4 : Hid (w.heap.size <= (w3.alloc (.cells #[.int .i64 T, .slice A L C] 69)).heap.size) := Nat.le_trans HB3.out.size hal.size;have q0 := cellB' HB3.out hbl HC0.out;have q1 := cellB' HB3.out hbl HC1.out;clear hR hRl hRo hRv hal hM;go_wp2_with (at_builtin; refine wpList_append_where _ rfl (.tmp 62) (.tmp 67) 26 rfl w.heap.size 69 i0 _ 2 32 Tryz.underlying26 hi hz0 hz1 hz2 rfl (by decide) bv M (flat RB) rfl HRo4.out ⟨w3.heap.size, 0, none⟩ 1 1 [.int .i64 T, .slice A L C] rfl rfl (cells_new w3 [.int .i64 T, .slice A L C] 69) (one_tag T rfl) ?p1 ?p2 HSZ4.out ?_)
          case p1 => unfold maxLen; omega
          case p2 => omega
          intro vB w5 ho5 hg5 hw5;have HD5 := hd_ (D3.addB (t := ⟨T, .slice A L C, l⟩) HD4.out HRP.out HRV.out (by rw [<- HMM.out]; exact HRo4.out) HBS.out (by rw [<- HMM.out]; exact ho5) hg5 (fun k hk => by rw [World.size_alloc]; exact hw5 k hk));clear ho5 hg5 hw5 q0 q1 HD4 HRo4 HRP HRV;have HB6 := hd_ HD5.out.low;have GO := hd_ (rgood_any r w5 HIS.out);have r0 := cellB' HB6.out hrbl HRC.out.1;have r1 := cellB' HB6.out hrbl HRC.out.2.1;have r2 := cellB' HB6.out hrbl HRC.out.2.2.1;have r3 := cellB' HB6.out hrbl HRC.out.2.2.2.1;have r4 := cellB' HB6.out hrbl HRC.out.2.2.2.2.1;have r5 := cellB' HB6.out hrbl HRC.out.2.2.2.2.2.1;have r6 := cellB' HB6.out hrbl HRC.out.2.2.2.2.2.2;go_wp2_with fail
          refine GO.out.mono ?_;rintro e w6 ⟨vg, rfl, hown, hb6⟩;obtain ⟨A3, L3, C3, ev, hL3, _, _⟩ := hown.bs.sl;subst ev;have hal6 : Gr w6 (w6.alloc (.cells #[.int .i64 r.typ, .slice A3 L3 C3] 69)) := (Gr.refl _).alloc _;have HD6 := hd_ ((HD5.out.gr hb6).gr hal6);have HO6 := hd_ ((hown.below hal6).mono (base' := w.heap.size) HB6.out.size);have HSZ6 : Hid (w.heap.size <= (w6.alloc (.cells #[.int .i64 r.typ, .slice A3 L3 C3] 69)).heap.size) := HD6.out.low.size;obtain ⟨NN, hNN, hNo⟩ := HD6.out.n;have HNN := hd_ hNN;have HNO := hd_ hNo;have hnl : NN.length <= 1000 := by
           rw [<- plain_length, hNN, List.length_map];exact Nat.le_trans (bads_len rs _ []) (by rw [List.length_take]; omega)
          obtain ⟨M2, hM2⟩ : ∃ M, M = NN.length := ⟨_, rfl⟩;rw [<- hM2] at hnl;have HNOW : Hid ((w6.alloc (.cells #[.int .i64 r.typ, .slice A3 L3 C3] 69)).ownsRow w.heap.size 69 2 nv M2 (flat NN)) := by rw [hM2]; exact hNo.own
          have HMM2 := hd_ hM2;clear hown hb6 hL3 hal6 hNN hNo hM2 r0 r1 r2 r3 r4 r5 r6;go_wp2_with (at_builtin; refine wpList_append_where _ rfl (.tmp 69) (.tmp 75) 26 rfl w.heap.size 69 i0 _ 2 32 Tryz.underlying26 hi hz0 hz1 hz2 rfl (by decide) nv M2 (flat NN) rfl HNOW.out ⟨w6.heap.size, 0, none⟩ 1 1 [.int .i64 r.typ, .slice A3 L3 C3] rfl rfl (cells_new w6 [.int .i64 r.typ, .slice A3 L3 C3] 69) (one_tag r.typ rfl) ?p1 ?p2 HSZ6.out ?_)
          case p1 => unfold maxLen; omega
          case p2 => omega
          intro vN w7 ho7 hg7 hw7;have HD7 := hd_ (D3.addN (t := ⟨r.typ, .slice A3 L3 C3, (goodO r).2⟩) HD6.out HNN.out HNO.out HO6.out (by rw [<- HMM2.out]; exact ho7) hg7 (fun k hk => by rw [World.size_alloc]; exact hw7 k hk));clear ho7 hg7 hw7;go_wp2
          go_roundw
          case rel =>
           have HX : D3 w (rejs rs [] ((plain ts).take (i + 1))) ((bads rs [] ((plain ts).take (i + 1))).map (·.1)) ((bads rs [] ((plain ts).take (i + 1))).map (·.2)) rv vB vN w7 := by
            rw [HNR.out, HNB.out, if_neg (by decide), List.map_append, List.map_append];exact HD7.out
           first | exact ⟨i + 1, _, _, _, by omega, by go_num, rfl, rfl, rfl, HX⟩ | ((repeat apply Exists.intro); exact ⟨⟨i + 1, _, _, _, by omega, by go_num, rfl, rfl, rfl, HX⟩, rfl⟩)
          case measure => simp [intOf]; omega
      · have HB2 := hd_ (HB.out.trans (hb2.mono HB.out.size));have HD2 := hd_ (HD.out.gr hb2);have HRO := hd_ hro;clear hb2 k0 k1 RU hro;go_upto_region 8 with fail
        refine wp_region_G 13 Gr (by kernel_rfl) ?_;refine wpG_u preGr 0 (some 31) ?_;refine wpG_u preGr 1 (some 32) ?_;refine wpG_u preGr 2 (some 33) ?_;refine wpG_p preGr 3 (some 34) ?_;refine wpG_p preGr 4 (some 35) ?_;refine wpG_p preGr 5 (some 36) ?_;refine wpG_p preGr 6 (some 37) ?_;refine wpG_p preGr 7 (some 38) ?_;refine wpG_p preGr 8 (some 39) ?_;refine wpG_p preGr 9 (some 40) ?_;refine wpG_p preGr 10 (some 41) ?_;refine wpG_p preGr 11 (some 42) ?_;refine wpG_u preGr 12 (some 43) ?_;refine wpG_done (by kernel_rfl) ?_ _;have HB3 : Hid (Below w.heap.size w w2.drew) := HB2.out.drew;have HD3 : Hid (D3 w (rejs rs [] ((plain ts).take i)) ((bads rs [] ((plain ts).take i)).map (·.1)) ((bads rs [] ((plain ts).take i)).map (·.2)) rv bv nv w2.drew) := HD2.out.gr (Gr.drew w2);generalize w2.drew = w3 at HB3 HD3 ⊢;clear HD2 HB2 HD HB;have HNR : Hid (rejs rs [] ((plain ts).take (i + 1)) = rejs rs [] ((plain ts).take i) ++ [(T, l)]) := by
         show _ = _;rw [HTK.out, rejs_snoc, HRO.out];simp
        have HNB : Hid (bads rs [] ((plain ts).take (i + 1)) = bads rs [] ((plain ts).take i)) := by
         show _ = _;rw [HTK.out, bads_snoc];unfold badO;rw [HRO.out, List.append_nil]
        obtain ⟨RR, hR, hRl, hRo, hRv⟩ := HD3.out.r.own;have HRP := hd_ hR;have HRV := hd_ hRv;have hal : Gr w3 (w3.alloc (.cells #[.int .i64 T, .slice A L C] 69)) := (Gr.refl _).alloc _;have HD4 := hd_ (HD3.out.gr hal);obtain ⟨M, hM⟩ : ∃ M, M = (rejs rs [] ((plain ts).take i)).length := ⟨_, rfl⟩;have hM1 : M <= 1000 := by rw [hM]; exact Nat.le_trans (rejs_len rs _ []) (by rw [List.length_take]; omega)
        rw [<- hM] at hRo;have HMM := hd_ hM;have HRo4 := hd_ (ownsRow_below hRo hal);have HSZ4 : Hid (w.heap.size <= (w3.alloc (.cells #[.int .i64 T, .slice A L C] 69)).heap.size) := Nat.le_trans HB3.out.size hal.size;have q0 := cellB' HB3.out hbl HC0.out;have q1 := cellB' HB3.out hbl HC1.out;clear hR hRl hRo hRv hal hM;go_wp2_with (at_builtin; refine wpList_append_where _ rfl (.tmp 44) (.tmp 49) 26 rfl w.heap.size 69 i0 _ 2 32 Tryz.underlying26 hi hz0 hz1 hz2 rfl (by decide) rv M (flat RR) rfl HRo4.out ⟨w3.heap.size, 0, none⟩ 1 1 [.int .i64 T, .slice A L C] rfl rfl (cells_new w3 [.int .i64 T, .slice A L C] 69) (one_tag T rfl) ?p1 ?p2 HSZ4.out ?_)
        case p1 => unfold maxLen; omega
        case p2 => omega
        intro vR w5 ho5 hg5 hw5;have HD5 := hd_ (D3.addR (t := ⟨T, .slice A L C, l⟩) HD4.out HRP.out HRV.out (by rw [<- HMM.out]; exact HRo4.out) HBS.out (by rw [<- HMM.out]; exact ho5) hg5 (fun k hk => by rw [World.size_alloc]; exact hw5 k hk));clear ho5 hg5 hw5 q0 q1 HD4 HRo4 HRP HRV;go_wp2
        go_roundw
        case rel =>
         have HX : D3 w (rejs rs [] ((plain ts).take (i + 1))) ((bads rs [] ((plain ts).take (i + 1))).map (·.1)) ((bads rs [] ((plain ts).take (i + 1))).map (·.2)) vR bv nv w5 := by
          rw [HNR.out, HNB.out];exact HD5.out
         first | exact ⟨i + 1, _, _, _, by omega, by go_num, rfl, rfl, rfl, HX⟩ | ((repeat apply Exists.intro); exact ⟨⟨i + 1, _, _, _, by omega, by go_num, rfl, rfl, rfl, HX⟩, rfl⟩)
        case measure => simp [intOf]; omega
    · obtain rfl : i = n := by omega
      have htk : (plain ts).take i = plain ts := List.take_of_length_le (by omega);rw [htk] at HD;obtain ⟨RR0, hR, hRl, hRo, hRv⟩ := HD.out.r.own;obtain ⟨m, hm⟩ : ∃ m, m = (rejs rs [] (plain ts)).length := ⟨_, rfl⟩;rw [<- hm] at hRo;obtain ⟨a1, c1', ev, _, _⟩ := (own_rd hRo).shape;subst ev;have HTR1 : Hid (TR wr (.slice a1 m c1') m RR0) := ⟨own_rd hRo, fun x hx => (hRv x hx).below HB.out⟩;have HP1 := hd_ hR;have HMM := hd_ hm;clear hR hRl hRo hRv hm htk
      by_cases h0 : 0 < m
      · have HANS : Hid (ans rs (plain ts) naks most = (4, rejs rs [] (plain ts))) := by
         show _ = _;unfold ans;rw [if_neg (by simpa using HA.out), if_pos (fun e => by have := HMM.out; rw [e] at this; simp at this; omega)]
        have h01 : (0 : Int) < (m : Int) := by omega
        go_wp2
        go_ret2
        exact RRes.of 4 _ a1 m c1' RR0 HANS.out HP1.out HTR1.out HB.out
      · obtain rfl : m = 0 := by omega
        have HREJ : Hid (rejs rs [] (plain ts) = []) := List.eq_nil_of_length_eq_zero HMM.out.symm;have HD1 : Hid (D3 w (rejs rs [] (plain ts)) ((bads rs [] (plain ts)).map (·.1)) ((bads rs [] (plain ts)).map (·.2) ++ lackTo rs (plain ts) 0) (.slice a1 0 c1') bv nv wr) := by
         show D3 _ _ _ _ _ _ _ _;have e : lackTo rs (plain ts) 0 = [] := by unfold lackTo lacks; rw [List.take_zero]; rfl
         rw [e, List.append_nil];exact HD.out
        clear HD HTR1 HP1 HMM h0 HB;obtain ⟨wA, hwA⟩ : ∃ x, x = wr := ⟨_, rfl⟩;subst hwA;go_wp2
        go_loopw [12, 15] (fun s12 jv wr => ∃ (j : Nat) (nv : Value), j <= rn /\ jv = .int .i64 (j : Int) /\ nv = s12 /\ D3 w (rejs rs [] (plain ts)) ((bads rs [] (plain ts)).map (·.1)) ((bads rs [] (plain ts)).map (·.2) ++ lackTo rs (plain ts) j) (.slice a1 0 c1') bv nv wr) (fun _ jv _ => rn - (intOf jv).toNat)
        case atStart => exact ⟨0, _, Nat.zero_le _, rfl, rfl, HD1.out⟩
        case round =>
         clear HD1;obtain ⟨j, nv, hj, rfl, rfl, hd⟩ := hrel;have HD := hd_ hd;have HB := hd_ hd.low;clear hd
         by_cases hlt : j < rn
         · obtain ⟨rb, ro, rfl, hrbl, hrc⟩ := HRR.out.cells (by omega);have hrck := hrc j (by omega);obtain ⟨r, hr⟩ : ∃ r, r = rs[j] := ⟨_, rfl⟩;rw [<- hr] at hrck;have HRC := hd_ hrck;have HIS : Hid (isR r) := by show isR r; rw [hr]; exact HA.out.2.1 _ (List.getElem_mem _)
           have HLK : Hid (lackTo rs (plain ts) (j + 1) = lackTo rs (plain ts) j ++ (if r.must && !hasT (plain ts) r.typ then [goodO r] else [])) := by
            show _ = _;rw [lackTo_succ _ _ _ (by omega), <- hr]
           have hjr : (j : Int) < (rn : Int) := by omega
           obtain ⟨q, hq⟩ : ∃ q, q = hasT (plain ts) r.typ := ⟨_, rfl⟩;have HSS := hd_ (has_any ao i c ts r.typ wr (HR.out.below HB.out) hn);rw [<- hq] at HSS HLK;have q0 := cellB' HB.out hrbl HRC.out.1;have q6 := cellB' HB.out hrbl HRC.out.2.2.2.2.2.2;have HMU : Hid (r.must = true \/ r.must = false) := by show _ \/ _; cases r.must <;> simp
           clear hrc hrck hr hq
           rcases HMU.out with hmu | hmu
           · rw [hmu] at q6;rw [hmu, Bool.true_and] at HLK;cases q with
             | true =>
              go_wp2_with fail
              refine HSS.out.mono ?_;rintro e w2 ⟨rfl, rfl⟩;go_wp2
              go_roundw
              case rel =>
               have HX : D3 w (rejs rs [] (plain ts)) ((bads rs [] (plain ts)).map (·.1)) ((bads rs [] (plain ts)).map (·.2) ++ lackTo rs (plain ts) (j + 1)) (.slice a1 0 c1') bv nv wr := by
                rw [HLK.out, if_neg (by decide), List.append_nil];exact HD.out
               first | exact ⟨j + 1, _, by omega, by go_num, rfl, HX⟩ | ((repeat apply Exists.intro); exact ⟨⟨j + 1, _, by omega, by go_num, rfl, HX⟩, rfl⟩)
              case measure => simp [intOf]; omega
             | false =>
              have r1 := cellB' HB.out hrbl HRC.out.2.1;have r2 := cellB' HB.out hrbl HRC.out.2.2.1;have r3 := cellB' HB.out hrbl HRC.out.2.2.2.1;have r4 := cellB' HB.out hrbl HRC.out.2.2.2.2.1;have r5 := cellB' HB.out hrbl HRC.out.2.2.2.2.2.1;have GO := hd_ (rgood_any r wr HIS.out);rw [hmu] at GO;go_wp2_with fail
              refine HSS.out.mono ?_;rintro e w2 ⟨rfl, rfl⟩;go_wp2_with fail
              refine GO.out.mono ?_;rintro e w6 ⟨vg, rfl, hown, hb6⟩;obtain ⟨A3, L3, C3, ev, hL3, _, _⟩ := hown.bs.sl;subst ev;have hal6 : Gr w6 (w6.alloc (.cells #[.int .i64 r.typ, .slice A3 L3 C3] 69)) := (Gr.refl _).alloc _;have HD6 := hd_ ((HD.out.gr hb6).gr hal6);have HO6 := hd_ ((hown.below hal6).mono (base' := w.heap.size) HB.out.size);have HSZ6 : Hid (w.heap.size <= (w6.alloc (.cells #[.int .i64 r.typ, .slice A3 L3 C3] 69)).heap.size) := HD6.out.low.size;obtain ⟨NN, hNN, hNo⟩ := HD6.out.n;have HNN := hd_ hNN;have HNO := hd_ hNo;have hnl : NN.length <= 1016 := by
               rw [<- plain_length, hNN, List.length_append, List.length_map];have h1 := bads_len rs (plain ts) [];have h2 := lackTo_length rs (plain ts) j;omega
              obtain ⟨M2, hM2⟩ : ∃ M, M = NN.length := ⟨_, rfl⟩;rw [<- hM2] at hnl;have HNOW : Hid ((w6.alloc (.cells #[.int .i64 r.typ, .slice A3 L3 C3] 69)).ownsRow w.heap.size 69 2 nv M2 (flat NN)) := by rw [hM2]; exact hNo.own
              have HMM2 := hd_ hM2;clear hown hb6 hL3 hal6 hNN hNo hM2 q0 q6 r1 r2 r3 r4 r5;go_wp2_with (at_builtin; refine wpList_append_where _ rfl (.tmp 102) (.tmp 108) 26 rfl w.heap.size 69 i0 _ 2 32 Tryz.underlying26 hi hz0 hz1 hz2 rfl (by decide) nv M2 (flat NN) rfl HNOW.out ⟨w6.heap.size, 0, none⟩ 1 1 [.int .i64 r.typ, .slice A3 L3 C3] rfl rfl (cells_new w6 [.int .i64 r.typ, .slice A3 L3 C3] 69) (one_tag r.typ rfl) ?p1 ?p2 HSZ6.out ?_)
              case p1 => unfold maxLen; omega
              case p2 => omega
              intro vN w7 ho7 hg7 hw7;have HD7 := hd_ (D3.addN (t := ⟨r.typ, .slice A3 L3 C3, (goodO r).2⟩) HD6.out HNN.out HNO.out HO6.out (by rw [<- HMM2.out]; exact ho7) hg7 (fun k hk => by rw [World.size_alloc]; exact hw7 k hk));clear ho7 hg7 hw7;go_wp2
              go_roundw
              case rel =>
               have HX : D3 w (rejs rs [] (plain ts)) ((bads rs [] (plain ts)).map (·.1)) ((bads rs [] (plain ts)).map (·.2) ++ lackTo rs (plain ts) (j + 1)) (.slice a1 0 c1') bv vN w7 := by
                rw [HLK.out, if_pos (by decide), <- List.append_assoc];exact HD7.out
               first | exact ⟨j + 1, _, by omega, by go_num, rfl, HX⟩ | ((repeat apply Exists.intro); exact ⟨⟨j + 1, _, by omega, by go_num, rfl, HX⟩, rfl⟩)
              case measure => simp [intOf]; omega
           · rw [hmu] at q6;rw [hmu, Bool.false_and] at HLK;go_wp2
             go_roundw
             case rel =>
              have HX : D3 w (rejs rs [] (plain ts)) ((bads rs [] (plain ts)).map (·.1)) ((bads rs [] (plain ts)).map (·.2) ++ lackTo rs (plain ts) (j + 1)) (.slice a1 0 c1') bv nv wr := by
               rw [HLK.out, if_neg (by decide), List.append_nil];exact HD.out
              first | exact ⟨j + 1, _, by omega, by go_num, rfl, HX⟩ | ((repeat apply Exists.intro); exact ⟨⟨j + 1, _, by omega, by go_num, rfl, HX⟩, rfl⟩)
             case measure => simp [intOf]; omega
         · obtain rfl : j = rn := by omega
           have hlk : lackTo rs (plain ts) j = lacks rs (plain ts) := by unfold lackTo; rw [List.take_of_length_le (by omega)]
           rw [hlk] at HD;obtain ⟨NN, hNN, hNo⟩ := HD.out.n;obtain ⟨m2, hm2⟩ : ∃ m, m = NN.length := ⟨_, rfl⟩;obtain ⟨a2, c2', ev, _, _⟩ := hNo.tr.shape;rw [<- hm2] at ev;subst ev;have HTR2 : Hid (TR wr (.slice a2 m2 c2') m2 NN) := by have := hNo.tr; rwa [<- hm2] at this
           have HNN := hd_ hNN;have HM2 : Hid (m2 = 0 ↔ (bads rs [] (plain ts)).map (·.2) ++ lacks rs (plain ts) = []) := by
            show _ ↔ _;rw [<- hNN, <- List.length_eq_zero_iff, plain_length, hm2]
           obtain ⟨BB, hBB, hBl, hBo, hBv⟩ := HD.out.b.own;obtain ⟨m3, hm3⟩ : ∃ m, m = ((bads rs [] (plain ts)).map (·.1)).length := ⟨_, rfl⟩;rw [<- hm3] at hBo;obtain ⟨a3, c3', ev, _, _⟩ := (own_rd hBo).shape;subst ev;have HTR3 : Hid (TR wr (.slice a3 m3 c3') m3 BB) := ⟨own_rd hBo, fun x hx => (hBv x hx).below HB.out⟩;have HBB := hd_ hBB;have HM3 : Hid (m3 = 0 ↔ bads rs [] (plain ts) = []) := by
            show _ ↔ _;rw [hm3, List.length_map, List.length_eq_zero_iff]
           clear hNN hNo hm2 hBB hBl hBo hBv hm3 hlk
           by_cases h2 : m2 = 0
           · subst h2;have HANS : Hid (ans rs (plain ts) naks most = (2, plain ts)) := by
              show _ = _;unfold ans;rw [if_neg (by simpa using HA.out), if_neg (by simpa using HREJ.out), if_pos (HM2.out.1 rfl)]
             go_wp2
             go_ret2
             exact RRes.of 2 _ ao i c ts HANS.out rfl (HR.out.below HB.out) HB.out
           · have h2b : ((m2 : Int) == 0) = false := by simpa using h2
             have HN2 : Hid (¬ ((bads rs [] (plain ts)).map (·.2) ++ lacks rs (plain ts) = [])) := fun e => h2 (HM2.out.2 e)
             have hz2' : ¬ (m2 : Int) = 0 := by omega
             clear h2;have HS : Hid (ans rs (plain ts) naks most = if most <= naks /\ bads rs [] (plain ts) ≠ [] then (4, (bads rs [] (plain ts)).map (·.1)) else (3, (bads rs [] (plain ts)).map (·.2) ++ lacks rs (plain ts))) := by
              show _ = _;unfold ans;rw [if_neg (by simpa using HA.out), if_neg (by simpa using HREJ.out), if_neg HN2.out]
             by_cases h3 : most <= naks
             · by_cases h4 : 0 < m3
               · have h41 : (0 : Int) < (m3 : Int) := by omega
                 have HANS : Hid (ans rs (plain ts) naks most = (4, (bads rs [] (plain ts)).map (·.1))) := HS.out.trans (if_pos ⟨h3, fun e => by have := HM3.out.2 e; omega⟩);go_wp2
                 go_ret2
                 exact RRes.of 4 _ a3 m3 c3' BB HANS.out HBB.out HTR3.out HB.out
               · obtain rfl : m3 = 0 := by omega
                 have HANS : Hid (ans rs (plain ts) naks most = (3, (bads rs [] (plain ts)).map (·.2) ++ lacks rs (plain ts))) := HS.out.trans (if_neg fun h => h.2 (HM3.out.1 rfl));go_wp2
                 go_ret2
                 exact RRes.of 3 _ a2 m2 c2' NN HANS.out HNN.out HTR2.out HB.out
             · have HANS : Hid (ans rs (plain ts) naks most = (3, (bads rs [] (plain ts)).map (·.2) ++ lacks rs (plain ts))) := HS.out.trans (if_neg fun h => h3 h.1);go_wp2
               go_ret2
               exact RRes.of 3 _ a2 m2 c2' NN HANS.out HNN.out HTR2.out HB.out
 · rw [decide_eq_false ha] at AR;have HANS : Hid (ans rs (plain ts) naks most = (0, [])) := by show _ = _; unfold ans; rw [if_pos ha]
   clear ha;go_enter Tryz.func26, Tryz.ntmps26
   go_wp2_with fail
   refine AR.out.mono ?_;rintro e w1 ⟨rfl, hb1⟩;have HB1 := hd_ hb1;clear hb1 AR;go_wp2
   go_ret2
   exact RRes.of 0 _ none 0 0 [] HANS.out rfl (TR.nil _) HB1.out
end Go.Proofs.YtclplbapedmihaaGreat.Ng
