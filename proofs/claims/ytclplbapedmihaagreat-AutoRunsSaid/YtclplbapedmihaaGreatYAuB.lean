/- AuA AuC AuD AuE AuJ -/
import Derived.Test.YtclplbapedmihaaGreatYAuA
import Derived.Test.YtclplbapedmihaaGreatYNgA
import Derived.Test.YtclplbapedmihaaGreatYOp
import Derived.Test.YtclplbapedmihaaGreatYFs
import Derived.Deep.DeepCutAuto
import Derived.Deep.CutBlock
import Derived.Test.YtclplbapedmihaaGreatYNgB
namespace Go.Proofs.YtclplbapedmihaaGreat.Au
set_option maxRecDepth 4000
open Go.RowKit O Ng
open Go.Proofs.YtclplbapedmihaaGreat.Fs (Timed_any)
set_option linter.unusedVariables false
set_option linter.unusedSimpArgs false
theorem cells5 {w : World} {g : Nat} {a b c d e : Value} {t : TypeId} {fr : Nat × Nat} (h : w.heap[g]? = some (.cells #[a, b, c, d, e] t fr)) :
 w.cell? ⟨g, 0, none⟩ = some a /\ w.cell? ⟨g, 1, none⟩ = some b /\ w.cell? ⟨g, 2, none⟩ = some c /\ w.cell? ⟨g, 3, none⟩ = some d /\ w.cell? ⟨g, 4, none⟩ = some e :=
 ⟨by rw [cell_of_row w g _ _ _ _ h]; rfl, by rw [cell_of_row w g _ _ _ _ h]; rfl, by rw [cell_of_row w g _ _ _ _ h]; rfl, by rw [cell_of_row w g _ _ _ _ h]; rfl, by rw [cell_of_row w g _ _ _ _ h]; rfl⟩
theorem ret_num {a b : Int} (h : b = a) : Ending.returned (.int .i64 a) = Ending.returned (.int .i64 b) := by rw [h]
theorem rb_ {b c : Bool} (h : c = b) : Ending.returned (.bool b) = Ending.returned (.bool c) := by rw [h]
theorem isIn_any (n lo hi : Int) (w : World) : Calls Tryz.prog 39 #[.int .i64 n, .int .i64 lo, .int .i64 hi] w fun e w' => e = .returned (.bool (decide (lo <= n /\ n <= hi))) /\ w' = w := by
 by_cases h1 : lo <= n
 · by_cases h2 : n <= hi
   · rw [decide_eq_true (And.intro h1 h2)];go_enter Tryz.func39, Tryz.ntmps39
     go_wp2
     go_ret
     exact ⟨rfl, rfl⟩
   · rw [decide_eq_false (fun h => h2 h.2)];go_enter Tryz.func39, Tryz.ntmps39
     go_wp2
     go_ret
     exact ⟨rfl, rfl⟩
 · rw [decide_eq_false (fun h => h1 h.1)];go_enter Tryz.func39, Tryz.ntmps39
   go_wp2
   go_ret
   exact ⟨rfl, rfl⟩
theorem ii_ {n lo hi : Int} {b : Bool} (h : decide (lo <= n /\ n <= hi) = b) (w : World) : Calls Tryz.prog 39 #[.int .i64 n, .int .i64 lo, .int .i64 hi] w fun e w' => e = .returned (.bool b) /\ w' = w := by
 rw [<- h];exact isIn_any n lo hi w
set_option maxRecDepth 20000 in
set_option maxHeartbeats 4000000 in
theorem conf_any (ra : Option Addr) (rn rc : Nat) (rs : List Ru) (k1 k2 k3 k4 : Int) (w : World) (hr : RR w (.slice ra rn rc) rn rs) :
 Calls Tryz.prog 51 #[.agg #[.slice ra rn rc, .int .i64 k1, .int .i64 k2, .int .i64 k3, .int .i64 k4]] w fun e w' => e = .returned (.bool (decide (isC ⟨rs, k1, k2, k3, k4⟩))) /\ Below w.heap.size w w' := by
 have BA : Gr w (w.alloc (.cells #[.slice ra rn rc, .int .i64 k1, .int .i64 k2, .int .i64 k3, .int .i64 k4] 24)) := (Gr.refl w).alloc _;have HBA := hd_ BA;have HG : Hid ((w.alloc (.cells #[.slice ra rn rc, .int .i64 k1, .int .i64 k2, .int .i64 k3, .int .i64 k4] 24)).heap[w.heap.size]? = some (.cells #[.slice ra rn rc, .int .i64 k1, .int .i64 k2, .int .i64 k3, .int .i64 k4] 24)) := heap_alloc_last _ _;obtain ⟨j0, j1, j2, j3, j4⟩ := cells5 HG.out;have CK := hd_ (check_any ra rn rc rs _ (hr.below BA));clear BA hr
 by_cases ha : areR rs
 · rw [if_pos ha] at CK
   by_cases c1 : 1 <= k1 /\ k1 <= 1000
   · have I1 := hd_ (ii_ (decide_eq_true c1))
     by_cases c2 : 1 <= k2 /\ k2 <= 1000
     · have I2 := hd_ (ii_ (decide_eq_true c2))
       by_cases c3 : 0 <= k3 /\ k3 <= 1000
       · have I3 := hd_ (ii_ (decide_eq_true c3))
         by_cases c4 : 1 <= k4 /\ k4 <= 1048576
         · have I4 := hd_ (ii_ (decide_eq_true c4));have HD : Hid (decide (isC ⟨rs, k1, k2, k3, k4⟩) = true) := decide_eq_true ⟨ha, c1, c2, c3, c4⟩;clear ha c1 c2 c3 c4;go_enter Tryz.func51, Tryz.ntmps51
           go_wp2_with fail
           refine CK.out.mono ?_;rintro e w1 ⟨rfl, hb1⟩;have HB1 : Hid (Gr w w1) := HBA.out.trans hb1;obtain ⟨i0, i1, i2, i3, i4⟩ := cells5 (hb_ HG.out hb1);clear hb1 CK HG HBA j0 j1 j2 j3 j4;go_wp2_with fail
           refine (I1.out _).mono ?_;rintro e w2 ⟨rfl, rfl⟩;go_wp2_with fail
           refine (I2.out _).mono ?_;rintro e w2 ⟨rfl, rfl⟩;go_wp2_with fail
           refine (I3.out _).mono ?_;rintro e w2 ⟨rfl, rfl⟩;go_wp2_with fail
           refine (I4.out _).mono ?_;rintro e w2 ⟨rfl, rfl⟩;go_wp2_with fail
           go_ret
           exact ⟨rb_ HD.out, HB1.out⟩
         · have I4 := hd_ (ii_ (decide_eq_false c4));have HD : Hid (decide (isC ⟨rs, k1, k2, k3, k4⟩) = false) := decide_eq_false fun h => c4 h.2.2.2.2
           clear ha c1 c2 c3 c4;go_enter Tryz.func51, Tryz.ntmps51
           go_wp2_with fail
           refine CK.out.mono ?_;rintro e w1 ⟨rfl, hb1⟩;have HB1 : Hid (Gr w w1) := HBA.out.trans hb1;obtain ⟨i0, i1, i2, i3, i4⟩ := cells5 (hb_ HG.out hb1);clear hb1 CK HG HBA j0 j1 j2 j3 j4;go_wp2_with fail
           refine (I1.out _).mono ?_;rintro e w2 ⟨rfl, rfl⟩;go_wp2_with fail
           refine (I2.out _).mono ?_;rintro e w2 ⟨rfl, rfl⟩;go_wp2_with fail
           refine (I3.out _).mono ?_;rintro e w2 ⟨rfl, rfl⟩;go_wp2_with fail
           refine (I4.out _).mono ?_;rintro e w2 ⟨rfl, rfl⟩;go_wp2_with fail
           go_ret
           exact ⟨rb_ HD.out, HB1.out⟩
       · have I3 := hd_ (ii_ (decide_eq_false c3));have HD : Hid (decide (isC ⟨rs, k1, k2, k3, k4⟩) = false) := decide_eq_false fun h => c3 h.2.2.2.1
         clear ha c1 c2 c3;go_enter Tryz.func51, Tryz.ntmps51
         go_wp2_with fail
         refine CK.out.mono ?_;rintro e w1 ⟨rfl, hb1⟩;have HB1 : Hid (Gr w w1) := HBA.out.trans hb1;obtain ⟨i0, i1, i2, i3, i4⟩ := cells5 (hb_ HG.out hb1);clear hb1 CK HG HBA j0 j1 j2 j3 j4;go_wp2_with fail
         refine (I1.out _).mono ?_;rintro e w2 ⟨rfl, rfl⟩;go_wp2_with fail
         refine (I2.out _).mono ?_;rintro e w2 ⟨rfl, rfl⟩;go_wp2_with fail
         refine (I3.out _).mono ?_;rintro e w2 ⟨rfl, rfl⟩;go_wp2_with fail
         go_ret
         exact ⟨rb_ HD.out, HB1.out⟩
     · have I2 := hd_ (ii_ (decide_eq_false c2));have HD : Hid (decide (isC ⟨rs, k1, k2, k3, k4⟩) = false) := decide_eq_false fun h => c2 h.2.2.1
       clear ha c1 c2;go_enter Tryz.func51, Tryz.ntmps51
       go_wp2_with fail
       refine CK.out.mono ?_;rintro e w1 ⟨rfl, hb1⟩;have HB1 : Hid (Gr w w1) := HBA.out.trans hb1;obtain ⟨i0, i1, i2, i3, i4⟩ := cells5 (hb_ HG.out hb1);clear hb1 CK HG HBA j0 j1 j2 j3 j4;go_wp2_with fail
       refine (I1.out _).mono ?_;rintro e w2 ⟨rfl, rfl⟩;go_wp2_with fail
       refine (I2.out _).mono ?_;rintro e w2 ⟨rfl, rfl⟩;go_wp2_with fail
       go_ret
       exact ⟨rb_ HD.out, HB1.out⟩
   · have I1 := hd_ (ii_ (decide_eq_false c1));have HD : Hid (decide (isC ⟨rs, k1, k2, k3, k4⟩) = false) := decide_eq_false fun h => c1 h.2.1
     clear ha c1;go_enter Tryz.func51, Tryz.ntmps51
     go_wp2_with fail
     refine CK.out.mono ?_;rintro e w1 ⟨rfl, hb1⟩;have HB1 : Hid (Gr w w1) := HBA.out.trans hb1;obtain ⟨i0, i1, i2, i3, i4⟩ := cells5 (hb_ HG.out hb1);clear hb1 CK HG HBA j0 j1 j2 j3 j4;go_wp2_with fail
     refine (I1.out _).mono ?_;rintro e w2 ⟨rfl, rfl⟩;go_wp2_with fail
     go_ret
     exact ⟨rb_ HD.out, HB1.out⟩
 · rw [if_neg ha] at CK;have HD : Hid (decide (isC ⟨rs, k1, k2, k3, k4⟩) = false) := decide_eq_false fun h => ha h.1
   clear ha;go_enter Tryz.func51, Tryz.ntmps51
   go_wp2_with fail
   refine CK.out.mono ?_;rintro e w1 ⟨rfl, hb1⟩;have HB1 : Hid (Gr w w1) := HBA.out.trans hb1;obtain ⟨i0, i1, i2, i3, i4⟩ := cells5 (hb_ HG.out hb1);clear hb1 CK HG HBA j0 j1 j2 j3 j4;go_wp2_with fail
   go_ret
   exact ⟨rb_ HD.out, HB1.out⟩
set_option maxRecDepth 20000 in
set_option maxHeartbeats 4000000 in
theorem timer_any (s i r : Int) (ao : Option Addr) (n c : Nat) (ct tm nk : Int) (w : World) :
 Calls Tryz.prog 79 #[.agg #[.int .i64 s, .int .i64 i, .int .i64 r, .slice ao n c, .int .i64 ct, .int .i64 tm, .int .i64 nk]] w fun e w' => e = .returned (.bool (decide (tmOk s tm))) /\ Below w.heap.size w w' := by
 have BA : Gr w (w.alloc (.cells #[.int .i64 s, .int .i64 i, .int .i64 r, .slice ao n c, .int .i64 ct, .int .i64 tm, .int .i64 nk] 28)) := (Gr.refl w).alloc _;have HBA := hd_ BA;obtain ⟨j0, j1, j2, j3, j4, j5, j6⟩ := cells7 (show (w.alloc (.cells #[.int .i64 s, .int .i64 i, .int .i64 r, .slice ao n c, .int .i64 ct, .int .i64 tm, .int .i64 nk] 28)).heap[w.heap.size]? = some (.cells #[.int .i64 s, .int .i64 i, .int .i64 r, .slice ao n c, .int .i64 ct, .int .i64 tm, .int .i64 nk] 28) from heap_alloc_last _ _);have T := hd_ (Timed_any s (w.alloc (.cells #[.int .i64 s, .int .i64 i, .int .i64 r, .slice ao n c, .int .i64 ct, .int .i64 tm, .int .i64 nk] 28)));clear BA;cases ht : Fs.timed s with
 | true =>
  rw [ht] at T;obtain ⟨B, hB⟩ : ∃ B, B = decide (tmOk s tm) := ⟨_, rfl⟩;have hd : decide (1 <= tm /\ tm <= 1099512676352) = B := by
   rw [hB];refine decide_eq_decide.2 ⟨fun h => ⟨fun _ => h, fun x => ?_⟩, fun h => h.1 ht⟩;rw [ht] at x; cases x
  have HI := hd_ (ii_ hd (w.alloc (.cells #[.int .i64 s, .int .i64 i, .int .i64 r, .slice ao n c, .int .i64 ct, .int .i64 tm, .int .i64 nk] 28)));rw [<- hB];clear ht hB hd;go_enter Tryz.func79, Tryz.ntmps79
  go_wp2_with fail
  refine T.out.mono ?_;rintro e w1 ⟨rfl, rfl⟩;go_wp2_with fail
  refine HI.out.mono ?_;rintro e w1 ⟨rfl, rfl⟩;go_wp2_with fail
  go_ret
  exact ⟨rfl, HBA.out⟩
 | false =>
  rw [ht] at T;obtain ⟨B, hB⟩ : ∃ B, B = decide (tmOk s tm) := ⟨_, rfl⟩;have HD : Hid (B = decide (tm = 0)) := by
   show _ = _;rw [hB];refine decide_eq_decide.2 ⟨fun h => h.2 ht, fun h => ⟨fun x => ?_, fun _ => h⟩⟩;rw [ht] at x; cases x
  rw [<- hB];clear ht hB
  by_cases hz : tm = 0
  · subst hz;have HZ : Hid (decide ((0 : Int) = 0) = true) := decide_eq_true rfl;go_enter Tryz.func79, Tryz.ntmps79
    go_wp2_with fail
    refine T.out.mono ?_;rintro e w1 ⟨rfl, rfl⟩;go_wp2_with fail
    go_ret
    exact ⟨rb_ (HD.out.trans HZ.out), HBA.out⟩
  · have HZ : Hid (decide (tm = 0) = false) := decide_eq_false hz;have hz2 : (tm == 0) = false := by simpa using hz
    go_enter Tryz.func79, Tryz.ntmps79
    go_wp2_with fail
    refine T.out.mono ?_;rintro e w1 ⟨rfl, rfl⟩;go_wp2_with fail
    go_ret
    exact ⟨rb_ (HD.out.trans HZ.out), HBA.out⟩
set_option maxRecDepth 20000 in
set_option maxHeartbeats 4000000 in
theorem auto_any (s i r : Int) (ao : Option Addr) (n c : Nat) (ts : List Tg) (ct tm nk : Int) (w : World) (hr : TR w (.slice ao n c) n ts) (hn : n <= 1000) (hm : ∀ x ∈ ts, x.l.length <= 1000000) :
 Calls Tryz.prog 50 #[.agg #[.int .i64 s, .int .i64 i, .int .i64 r, .slice ao n c, .int .i64 ct, .int .i64 tm, .int .i64 nk]] w fun e w' => e = .returned (.bool (decide (isA ⟨s, i, r, plain ts, ct, tm, nk⟩))) /\ Below w.heap.size w w' := by
 have BA : Gr w (w.alloc (.cells #[.int .i64 s, .int .i64 i, .int .i64 r, .slice ao n c, .int .i64 ct, .int .i64 tm, .int .i64 nk] 28)) := (Gr.refl w).alloc _;have HBA := hd_ BA;have HG : Hid ((w.alloc (.cells #[.int .i64 s, .int .i64 i, .int .i64 r, .slice ao n c, .int .i64 ct, .int .i64 tm, .int .i64 nk] 28)).heap[w.heap.size]? = some (.cells #[.int .i64 s, .int .i64 i, .int .i64 r, .slice ao n c, .int .i64 ct, .int .i64 tm, .int .i64 nk] 28)) := heap_alloc_last _ _;obtain ⟨j0, j1, j2, j3, j4, j5, j6⟩ := cells7 HG.out;have EN := hd_ (encode_any ao n c ts _ (hr.below BA) hn hm);have TM := hd_ (timer_any s i r ao n c ct tm nk);unfold EncR at EN;obtain ⟨F, hF⟩ : ∃ F, F = encE (plain ts) := ⟨_, rfl⟩;rw [<- hF] at EN;clear BA hr hn hm
 by_cases hz : encE (plain ts) = 0
 · rw [hF, hz] at EN;clear hF
   by_cases c1 : 0 <= s /\ s <= 9
   · have I1 := hd_ (ii_ (decide_eq_true c1))
     by_cases c2 : 0 <= i /\ i <= 255
     · have I2 := hd_ (ii_ (decide_eq_true c2))
       by_cases c3 : 0 <= r /\ r <= 255
       · have I3 := hd_ (ii_ (decide_eq_true c3))
         by_cases c4 : 0 <= ct /\ ct <= 1000
         · have I4 := hd_ (ii_ (decide_eq_true c4))
           by_cases c5 : 0 <= nk /\ nk <= 1000
           · have I5 := hd_ (ii_ (decide_eq_true c5))
             by_cases ct6 : tmOk s tm
             · have HD : Hid (decide (isA ⟨s, i, r, plain ts, ct, tm, nk⟩) = true) := decide_eq_true ⟨c1, c2, c3, hz, c4, c5, ct6⟩;rw [decide_eq_true ct6] at TM;clear hz c1 c2 c3 c4 c5 ct6;go_enter Tryz.func50, Tryz.ntmps50
               go_wp2_with fail
               refine EN.out.mono ?_;rintro e w1 ⟨v1, rfl, _, hb1⟩;have HB1 : Hid (Gr w w1) := HBA.out.trans hb1;obtain ⟨i0, i1, i2, i3, i4, i5, i6⟩ := cells7 (hb_ HG.out hb1);clear hb1 EN HG HBA j0 j1 j2 j3 j4 j5 j6;go_wp2_with fail
               refine (I1.out _).mono ?_;rintro e w2 ⟨rfl, rfl⟩;go_wp2_with fail
               refine (I2.out _).mono ?_;rintro e w2 ⟨rfl, rfl⟩;go_wp2_with fail
               refine (I3.out _).mono ?_;rintro e w2 ⟨rfl, rfl⟩;go_wp2_with fail
               refine (I4.out _).mono ?_;rintro e w2 ⟨rfl, rfl⟩;go_wp2_with fail
               refine (I5.out _).mono ?_;rintro e w2 ⟨rfl, rfl⟩;go_wp2_with fail
               refine (TM.out _).mono ?_;rintro e w3 ⟨rfl, hb3⟩;have HB3 := hd_ (Gr.trans HB1.out hb3);clear hb3;go_wp2_with fail
               go_ret
               exact ⟨rb_ HD.out, HB3.out⟩
             · have HD : Hid (decide (isA ⟨s, i, r, plain ts, ct, tm, nk⟩) = false) := decide_eq_false fun h => ct6 h.2.2.2.2.2.2
               rw [decide_eq_false ct6] at TM;clear hz c1 c2 c3 c4 c5 ct6;go_enter Tryz.func50, Tryz.ntmps50
               go_wp2_with fail
               refine EN.out.mono ?_;rintro e w1 ⟨v1, rfl, _, hb1⟩;have HB1 : Hid (Gr w w1) := HBA.out.trans hb1;obtain ⟨i0, i1, i2, i3, i4, i5, i6⟩ := cells7 (hb_ HG.out hb1);clear hb1 EN HG HBA j0 j1 j2 j3 j4 j5 j6;go_wp2_with fail
               refine (I1.out _).mono ?_;rintro e w2 ⟨rfl, rfl⟩;go_wp2_with fail
               refine (I2.out _).mono ?_;rintro e w2 ⟨rfl, rfl⟩;go_wp2_with fail
               refine (I3.out _).mono ?_;rintro e w2 ⟨rfl, rfl⟩;go_wp2_with fail
               refine (I4.out _).mono ?_;rintro e w2 ⟨rfl, rfl⟩;go_wp2_with fail
               refine (I5.out _).mono ?_;rintro e w2 ⟨rfl, rfl⟩;go_wp2_with fail
               refine (TM.out _).mono ?_;rintro e w3 ⟨rfl, hb3⟩;have HB3 := hd_ (Gr.trans HB1.out hb3);clear hb3;go_wp2_with fail
               go_ret
               exact ⟨rb_ HD.out, HB3.out⟩
           · have I5 := hd_ (ii_ (decide_eq_false c5));have HD : Hid (decide (isA ⟨s, i, r, plain ts, ct, tm, nk⟩) = false) := decide_eq_false fun h => c5 h.2.2.2.2.2.1
             clear hz c1 c2 c3 c4 c5;go_enter Tryz.func50, Tryz.ntmps50
             go_wp2_with fail
             refine EN.out.mono ?_;rintro e w1 ⟨v1, rfl, _, hb1⟩;have HB1 : Hid (Gr w w1) := HBA.out.trans hb1;obtain ⟨i0, i1, i2, i3, i4, i5, i6⟩ := cells7 (hb_ HG.out hb1);clear hb1 EN HG HBA j0 j1 j2 j3 j4 j5 j6;go_wp2_with fail
             refine (I1.out _).mono ?_;rintro e w2 ⟨rfl, rfl⟩;go_wp2_with fail
             refine (I2.out _).mono ?_;rintro e w2 ⟨rfl, rfl⟩;go_wp2_with fail
             refine (I3.out _).mono ?_;rintro e w2 ⟨rfl, rfl⟩;go_wp2_with fail
             refine (I4.out _).mono ?_;rintro e w2 ⟨rfl, rfl⟩;go_wp2_with fail
             refine (I5.out _).mono ?_;rintro e w2 ⟨rfl, rfl⟩;go_wp2_with fail
             go_ret
             exact ⟨rb_ HD.out, HB1.out⟩
         · have I4 := hd_ (ii_ (decide_eq_false c4));have HD : Hid (decide (isA ⟨s, i, r, plain ts, ct, tm, nk⟩) = false) := decide_eq_false fun h => c4 h.2.2.2.2.1
           clear hz c1 c2 c3 c4;go_enter Tryz.func50, Tryz.ntmps50
           go_wp2_with fail
           refine EN.out.mono ?_;rintro e w1 ⟨v1, rfl, _, hb1⟩;have HB1 : Hid (Gr w w1) := HBA.out.trans hb1;obtain ⟨i0, i1, i2, i3, i4, i5, i6⟩ := cells7 (hb_ HG.out hb1);clear hb1 EN HG HBA j0 j1 j2 j3 j4 j5 j6;go_wp2_with fail
           refine (I1.out _).mono ?_;rintro e w2 ⟨rfl, rfl⟩;go_wp2_with fail
           refine (I2.out _).mono ?_;rintro e w2 ⟨rfl, rfl⟩;go_wp2_with fail
           refine (I3.out _).mono ?_;rintro e w2 ⟨rfl, rfl⟩;go_wp2_with fail
           refine (I4.out _).mono ?_;rintro e w2 ⟨rfl, rfl⟩;go_wp2_with fail
           go_ret
           exact ⟨rb_ HD.out, HB1.out⟩
       · have I3 := hd_ (ii_ (decide_eq_false c3));have HD : Hid (decide (isA ⟨s, i, r, plain ts, ct, tm, nk⟩) = false) := decide_eq_false fun h => c3 h.2.2.1
         clear hz c1 c2 c3;go_enter Tryz.func50, Tryz.ntmps50
         go_wp2_with fail
         refine EN.out.mono ?_;rintro e w1 ⟨v1, rfl, _, hb1⟩;have HB1 : Hid (Gr w w1) := HBA.out.trans hb1;obtain ⟨i0, i1, i2, i3, i4, i5, i6⟩ := cells7 (hb_ HG.out hb1);clear hb1 EN HG HBA j0 j1 j2 j3 j4 j5 j6;go_wp2_with fail
         refine (I1.out _).mono ?_;rintro e w2 ⟨rfl, rfl⟩;go_wp2_with fail
         refine (I2.out _).mono ?_;rintro e w2 ⟨rfl, rfl⟩;go_wp2_with fail
         refine (I3.out _).mono ?_;rintro e w2 ⟨rfl, rfl⟩;go_wp2_with fail
         go_ret
         exact ⟨rb_ HD.out, HB1.out⟩
     · have I2 := hd_ (ii_ (decide_eq_false c2));have HD : Hid (decide (isA ⟨s, i, r, plain ts, ct, tm, nk⟩) = false) := decide_eq_false fun h => c2 h.2.1
       clear hz c1 c2;go_enter Tryz.func50, Tryz.ntmps50
       go_wp2_with fail
       refine EN.out.mono ?_;rintro e w1 ⟨v1, rfl, _, hb1⟩;have HB1 : Hid (Gr w w1) := HBA.out.trans hb1;obtain ⟨i0, i1, i2, i3, i4, i5, i6⟩ := cells7 (hb_ HG.out hb1);clear hb1 EN HG HBA j0 j1 j2 j3 j4 j5 j6;go_wp2_with fail
       refine (I1.out _).mono ?_;rintro e w2 ⟨rfl, rfl⟩;go_wp2_with fail
       refine (I2.out _).mono ?_;rintro e w2 ⟨rfl, rfl⟩;go_wp2_with fail
       go_ret
       exact ⟨rb_ HD.out, HB1.out⟩
   · have I1 := hd_ (ii_ (decide_eq_false c1));have HD : Hid (decide (isA ⟨s, i, r, plain ts, ct, tm, nk⟩) = false) := decide_eq_false fun h => c1 h.1
     clear hz c1;go_enter Tryz.func50, Tryz.ntmps50
     go_wp2_with fail
     refine EN.out.mono ?_;rintro e w1 ⟨v1, rfl, _, hb1⟩;have HB1 : Hid (Gr w w1) := HBA.out.trans hb1;obtain ⟨i0, i1, i2, i3, i4, i5, i6⟩ := cells7 (hb_ HG.out hb1);clear hb1 EN HG HBA j0 j1 j2 j3 j4 j5 j6;go_wp2_with fail
     refine (I1.out _).mono ?_;rintro e w2 ⟨rfl, rfl⟩;go_wp2_with fail
     go_ret
     exact ⟨rb_ HD.out, HB1.out⟩
 · have HD : Hid (decide (isA ⟨s, i, r, plain ts, ct, tm, nk⟩) = false) := decide_eq_false fun h => hz h.2.2.2.1
   rw [<- hF] at hz;have hz2 : (F == 0) = false := by simpa using hz
   clear hF;go_enter Tryz.func50, Tryz.ntmps50
   go_wp2_with fail
   refine EN.out.mono ?_;rintro e w1 ⟨v1, rfl, _, hb1⟩;have HB1 : Hid (Gr w w1) := HBA.out.trans hb1;obtain ⟨i0, i1, i2, i3, i4, i5, i6⟩ := cells7 (hb_ HG.out hb1);clear hb1 EN HG HBA j0 j1 j2 j3 j4 j5 j6;go_wp2_with fail
   go_ret
   exact ⟨rb_ HD.out, HB1.out⟩
set_option maxRecDepth 20000 in
set_option maxHeartbeats 4000000 in
theorem check_auto (s i r : Int) (ao : Option Addr) (n c : Nat) (ts : List Tg) (ct tm nk : Int) (ra : Option Addr) (rn rc : Nat) (rs : List Ru) (k1 k2 k3 k4 : Int) (w : World) (hr : TR w (.slice ao n c) n ts) (hn : n <= 1000) (hm : ∀ x ∈ ts, x.l.length <= 1000000) (hrr : RR w (.slice ra rn rc) rn rs) :
 Calls Tryz.prog 25 #[.agg #[.int .i64 s, .int .i64 i, .int .i64 r, .slice ao n c, .int .i64 ct, .int .i64 tm, .int .i64 nk], .agg #[.slice ra rn rc, .int .i64 k1, .int .i64 k2, .int .i64 k3, .int .i64 k4]] w fun e w' => e = .returned (.int .i64 (if isC ⟨rs, k1, k2, k3, k4⟩ /\ isA ⟨s, i, r, plain ts, ct, tm, nk⟩ then 0 else 160)) /\ Below w.heap.size w w' := by
 have BA : Gr w ((w.alloc (.cells #[.int .i64 s, .int .i64 i, .int .i64 r, .slice ao n c, .int .i64 ct, .int .i64 tm, .int .i64 nk] 28)).alloc (.cells #[.slice ra rn rc, .int .i64 k1, .int .i64 k2, .int .i64 k3, .int .i64 k4] 24)) := ((Gr.refl w).alloc _).alloc _;have HBA := hd_ BA;have HG0 : Hid (((w.alloc (.cells #[.int .i64 s, .int .i64 i, .int .i64 r, .slice ao n c, .int .i64 ct, .int .i64 tm, .int .i64 nk] 28)).alloc (.cells #[.slice ra rn rc, .int .i64 k1, .int .i64 k2, .int .i64 k3, .int .i64 k4] 24)).heap[w.heap.size]? = some (.cells #[.int .i64 s, .int .i64 i, .int .i64 r, .slice ao n c, .int .i64 ct, .int .i64 tm, .int .i64 nk] 28)) := h0_ _ _ _;have HG1 : Hid (((w.alloc (.cells #[.int .i64 s, .int .i64 i, .int .i64 r, .slice ao n c, .int .i64 ct, .int .i64 tm, .int .i64 nk] 28)).alloc (.cells #[.slice ra rn rc, .int .i64 k1, .int .i64 k2, .int .i64 k3, .int .i64 k4] 24)).heap[w.heap.size + 1]? = some (.cells #[.slice ra rn rc, .int .i64 k1, .int .i64 k2, .int .i64 k3, .int .i64 k4] 24)) := h1_ _ _ _;obtain ⟨j0, j1, j2, j3, j4, j5, j6⟩ := cells7 HG0.out;have MB := hd_ (auto_any s i r ao n c ts ct tm nk _ (hr.below BA) hn hm);have HRR := hd_ hrr;have CF : Hid (∀ w', Gr w w' -> Calls Tryz.prog 51 #[.agg #[.slice ra rn rc, .int .i64 k1, .int .i64 k2, .int .i64 k3, .int .i64 k4]] w' fun e w'' => e = .returned (.bool (decide (isC ⟨rs, k1, k2, k3, k4⟩))) /\ Below w'.heap.size w' w'') := fun w' hw' => conf_any ra rn rc rs k1 k2 k3 k4 w' (HRR.out.below hw')
 clear BA hr hn hm hrr;obtain ⟨R, hR⟩ : ∃ R : Int, R = if isC ⟨rs, k1, k2, k3, k4⟩ /\ isA ⟨s, i, r, plain ts, ct, tm, nk⟩ then 0 else 160 := ⟨_, rfl⟩;rw [<- hR]
 by_cases ha : isA ⟨s, i, r, plain ts, ct, tm, nk⟩
 · rw [decide_eq_true ha] at MB
   by_cases hc : isC ⟨rs, k1, k2, k3, k4⟩
   · have HD : Hid (R = 0) := hR.trans <| if_pos ⟨hc, ha⟩
     rw [decide_eq_true hc] at CF;clear ha hc hR;go_enter Tryz.func25, Tryz.ntmps25
     go_wp2_with fail
     refine MB.out.mono ?_;rintro e w1 ⟨rfl, hb1⟩;have HB1 : Hid (Gr w w1) := HBA.out.trans hb1;obtain ⟨i0, i1, i2, i3, i4⟩ := cells5 (hb_ HG1.out hb1);clear hb1 MB HG0 HG1 HBA j0 j1 j2 j3 j4 j5 j6;go_wp2_with fail
     refine (CF.out _ HB1.out).mono ?_;rintro e w2 ⟨rfl, hb2⟩;have HB2 := hd_ (Gr.trans HB1.out hb2);clear hb2;go_wp2_with fail
     go_ret
     exact ⟨ret_num HD.out, HB2.out⟩
   · have HD : Hid (R = 160) := hR.trans <| if_neg fun h => hc h.1
     rw [decide_eq_false hc] at CF;clear ha hc hR;go_enter Tryz.func25, Tryz.ntmps25
     go_wp2_with fail
     refine MB.out.mono ?_;rintro e w1 ⟨rfl, hb1⟩;have HB1 : Hid (Gr w w1) := HBA.out.trans hb1;obtain ⟨i0, i1, i2, i3, i4⟩ := cells5 (hb_ HG1.out hb1);clear hb1 MB HG0 HG1 HBA j0 j1 j2 j3 j4 j5 j6;go_wp2_with fail
     refine (CF.out _ HB1.out).mono ?_;rintro e w2 ⟨rfl, hb2⟩;have HB2 := hd_ (Gr.trans HB1.out hb2);clear hb2;go_wp2_with fail
     go_ret
     exact ⟨ret_num HD.out, HB2.out⟩
 · rw [decide_eq_false ha] at MB;have HD : Hid (R = 160) := hR.trans <| if_neg fun h => ha h.2
   clear ha hR;go_enter Tryz.func25, Tryz.ntmps25
   go_wp2_with fail
   refine MB.out.mono ?_;rintro e w1 ⟨rfl, hb1⟩;have HB1 : Hid (Gr w w1) := HBA.out.trans hb1;clear hb1 MB HG0 HG1 HBA j0 j1 j2 j3 j4 j5 j6;go_wp2_with fail
   go_ret
   exact ⟨ret_num HD.out, HB1.out⟩
end Go.Proofs.YtclplbapedmihaaGreat.Au
namespace Go.Proofs.YtclplbapedmihaaGreat.Au
set_option maxRecDepth 4000
open Go.RowKit O Ng
open Go.Proofs.YtclplbapedmihaaGreat.Fs (AO AO.ar AO.nil AR)
set_option linter.unusedVariables false
set_option linter.unusedSimpArgs false
def V0 (c : Cfg) (a : Aut) (t : Int) (q : QC) : Vw := ⟨c, a, t, q, QC.zero, [], [], .slice none 0 0⟩
theorem sizeOs : (Tryz.prog.info? 26).map (·.size) = some 1 := by kernel_rfl
theorem heap3 (w : World) (o p q : Obj) : (((w.alloc o).alloc p).alloc q).heap[w.heap.size]? = some o /\ (((w.alloc o).alloc p).alloc q).heap[w.heap.size + 1]? = some p /\ (((w.alloc o).alloc p).alloc q).heap[w.heap.size + 2]? = some q := by
 refine ⟨?_, ?_, ?_⟩
 · exact hb_ (w := (w.alloc o).alloc p) (h0_ w o p) ((Gr.refl _).alloc _)
 · exact hb_ (w := (w.alloc o).alloc p) (h1_ w o p) ((Gr.refl _).alloc _)
 · have := heap_alloc_last ((w.alloc o).alloc p) q;simpa using this
set_option maxRecDepth 20000 in
set_option maxHeartbeats 4000000 in
theorem begin_any (ra : Option Addr) (rn rc : Nat) (rs : List Ru) (k1 k2 k3 k4 : Int) (s i r : Int) (ao : Option Addr) (n c : Nat) (ts : List Tg) (ct tm nk : Int) (qc qi : Int) (qa : Option Addr) (qn qk : Nat) (ql : List UInt8) (t : Int) (w : World)
 (hrr : RR w (.slice ra rn rc) rn rs) (hr : TR w (.slice ao n c) n ts) (hn : n <= 1000) (hm : ∀ x ∈ ts, x.l.length <= 1000) (hq : Bs w (.slice qa qn qk) ql) (hql : ql.length <= 1500) :
 Calls Tryz.prog 29 #[.agg #[.slice ra rn rc, .int .i64 k1, .int .i64 k2, .int .i64 k3, .int .i64 k4], .agg #[.int .i64 s, .int .i64 i, .int .i64 r, .slice ao n c, .int .i64 ct, .int .i64 tm, .int .i64 nk], .agg #[.int .i64 qc, .int .i64 qi, .slice qa qn qk], .int .i64 t] w fun e w' => ∃ g, e = .returned (.pointer (some ⟨g, 0, none⟩)) /\ RV w w' g (V0 ⟨rs, k1, k2, k3, k4⟩ ⟨s, i, r, plain ts, ct, tm, nk⟩ t ⟨qc, qi, ql⟩) := by
 have BA : Gr w (((w.alloc (.cells #[.slice ra rn rc, .int .i64 k1, .int .i64 k2, .int .i64 k3, .int .i64 k4] 24)).alloc (.cells #[.int .i64 s, .int .i64 i, .int .i64 r, .slice ao n c, .int .i64 ct, .int .i64 tm, .int .i64 nk] 28)).alloc (.cells #[.int .i64 qc, .int .i64 qi, .slice qa qn qk] 32)) := (((Gr.refl w).alloc _).alloc _).alloc _;have HBA := hd_ BA;have HG : Hid ((((w.alloc (.cells #[.slice ra rn rc, .int .i64 k1, .int .i64 k2, .int .i64 k3, .int .i64 k4] 24)).alloc (.cells #[.int .i64 s, .int .i64 i, .int .i64 r, .slice ao n c, .int .i64 ct, .int .i64 tm, .int .i64 nk] 28)).alloc (.cells #[.int .i64 qc, .int .i64 qi, .slice qa qn qk] 32)).heap[w.heap.size]? = some (.cells #[.slice ra rn rc, .int .i64 k1, .int .i64 k2, .int .i64 k3, .int .i64 k4] 24) /\ (((w.alloc (.cells #[.slice ra rn rc, .int .i64 k1, .int .i64 k2, .int .i64 k3, .int .i64 k4] 24)).alloc (.cells #[.int .i64 s, .int .i64 i, .int .i64 r, .slice ao n c, .int .i64 ct, .int .i64 tm, .int .i64 nk] 28)).alloc (.cells #[.int .i64 qc, .int .i64 qi, .slice qa qn qk] 32)).heap[w.heap.size + 1]? = some (.cells #[.int .i64 s, .int .i64 i, .int .i64 r, .slice ao n c, .int .i64 ct, .int .i64 tm, .int .i64 nk] 28) /\ (((w.alloc (.cells #[.slice ra rn rc, .int .i64 k1, .int .i64 k2, .int .i64 k3, .int .i64 k4] 24)).alloc (.cells #[.int .i64 s, .int .i64 i, .int .i64 r, .slice ao n c, .int .i64 ct, .int .i64 tm, .int .i64 nk] 28)).alloc (.cells #[.int .i64 qc, .int .i64 qi, .slice qa qn qk] 32)).heap[w.heap.size + 2]? = some (.cells #[.int .i64 qc, .int .i64 qi, .slice qa qn qk] 32)) := heap3 _ _ _ _;obtain ⟨j0, j1, j2, j3, j4, j5, j6⟩ := cells7 HG.out.2.1;have CP := hd_ (copies_any ao n c ts (((w.alloc (.cells #[.slice ra rn rc, .int .i64 k1, .int .i64 k2, .int .i64 k3, .int .i64 k4] 24)).alloc (.cells #[.int .i64 s, .int .i64 i, .int .i64 r, .slice ao n c, .int .i64 ct, .int .i64 tm, .int .i64 nk] 28)).alloc (.cells #[.int .i64 qc, .int .i64 qi, .slice qa qn qk] 32)) (hr.below BA) hn (fun x hx => by have := hm x hx; omega));have HRR := hd_ hrr;have HQ := hd_ hq;have HM := hd_ (And.intro hr.len (And.intro hn hm));have HQL := hd_ hql;clear BA hr hn hm hrr hq hql;go_enter Tryz.func29, Tryz.ntmps29
 go_wp2_with fail
 refine CP.out.mono ?_;rintro e w4 ⟨v, us, rfl, hpl, hto, hb⟩;have HB4 := hd_ (HBA.out.trans hb);have HG4 : Hid (w4.heap[w.heap.size]? = some (.cells #[.slice ra rn rc, .int .i64 k1, .int .i64 k2, .int .i64 k3, .int .i64 k4] 24) /\ w4.heap[w.heap.size + 1]? = some (.cells #[.int .i64 s, .int .i64 i, .int .i64 r, .slice ao n c, .int .i64 ct, .int .i64 tm, .int .i64 nk] 28) /\ w4.heap[w.heap.size + 2]? = some (.cells #[.int .i64 qc, .int .i64 qi, .slice qa qn qk] 32)) := ⟨hb_ HG.out.1 hb, hb_ HG.out.2.1 hb, hb_ HG.out.2.2 hb⟩;have HPL := hd_ hpl;have HTO := hd_ (hto.mono HBA.out.size);obtain ⟨a2, c2, ev, _, _⟩ := hto.tr.shape;subst ev;clear hpl hto hb CP HG j0 j1 j2 j3 j4 j5 j6;go_wp2_with (refine wl0 rfl 26 (.tmp 12) (.tmp 11) rfl (w.heap.size + 1) 3 (.slice a2 us.length c2) rfl rfl 28 _ HG4.out.2.1 sizeOs (by simp) rfl ?_)
 intro w5 g5 ho5;have HG5 : Hid (w5.heap[w.heap.size]? = some (.cells #[.slice ra rn rc, .int .i64 k1, .int .i64 k2, .int .i64 k3, .int .i64 k4] 24) /\ w5.heap[w.heap.size + 1]? = some (.cells #[.int .i64 s, .int .i64 i, .int .i64 r, .slice a2 us.length c2, .int .i64 ct, .int .i64 tm, .int .i64 nk] 28) /\ w5.heap[w.heap.size + 2]? = some (.cells #[.int .i64 qc, .int .i64 qi, .slice qa qn qk] 32)) :=
  ⟨(ho5.heap _ (Array.getElem?_eq_some_iff.1 HG4.out.1).1 (by omega)).trans HG4.out.1, g5, (ho5.heap _ (Array.getElem?_eq_some_iff.1 HG4.out.2.2).1 (by omega)).trans HG4.out.2.2⟩
 have HB5 : Hid (Below w.heap.size w w5) := ho5.below _ _ (by omega) HB4.out;have HTO5 : Hid (TO w5 w.heap.size (.slice a2 us.length c2) us) := TO.off HTO.out HG4.out.2.1 (by decide) (by decide) ho5;obtain ⟨i0, i1, i2, i3, i4⟩ := cells5 HG5.out.1;obtain ⟨j0, j1, j2, j3, j4, j5, j6⟩ := cells7 HG5.out.2.1;obtain ⟨q0, q1, q2⟩ := cells3 HG5.out.2.2;clear g5 ho5 HG4 HB4 HTO;go_wp2_with fail
 go_ret
 have hgr : Gr w5 (w5.alloc (.cells (rows (V0 ⟨rs, k1, k2, k3, k4⟩ ⟨s, i, r, plain ts, ct, tm, nk⟩ t ⟨qc, qi, ql⟩) ⟨.slice ra rn rc, .slice a2 us.length c2, .slice qa qn qk, .slice none 0 0, .slice none 0 0, us, []⟩) 75)) := (Gr.refl _).alloc _;have hol : Below w.heap.size w _ := HB5.out.trans (Below.mono hgr HB5.out.size);have hus : us.length = ts.length := by have := congrArg List.length HPL.out; rwa [pl_, pl_] at this
 refine ⟨_, rfl, ⟨.slice ra rn rc, .slice a2 us.length c2, .slice qa qn qk, .slice none 0 0, .slice none 0 0, us, []⟩, heap_alloc_last _ _, HB5.out.size, hol, ⟨rn, HRR.out⟩, HTO5.out.below hgr, HPL.out, HQ.out, .inl (OwnB.nil _ _ _), CO.nil _ _ _, rfl, AO.nil _ _, HQL.out, Nat.zero_le _, ?_, ?_⟩
 · rw [hus, HM.out.1]; exact HM.out.2.1
 · intro x hx;have hx2 : x.plain ∈ plain us := List.mem_map.2 ⟨x, hx, rfl⟩;rw [HPL.out] at hx2;obtain ⟨y, hy, e⟩ := List.mem_map.1 hx2;have := HM.out.2.2 y hy;have e2 : x.l = y.l := (congrArg Prod.snd e).symm;rw [e2]; exact this
theorem RAt.confs {w0 w : World} {g : Nat} {V : Vw} {m : Mv} (h : RAt w0 w g V m) : w.rangeAt g 0 [m.rv, .int .i64 V.c.conf, .int .i64 V.c.term, .int .i64 V.c.fail, .int .i64 V.c.wait] := by
 obtain ⟨k0, k1, k2, k3, k4, k5, k6, k7, k8, k9, k10, k11, k12, k13, k14, k15, k16, k17, k18, k19, k20⟩ := h.cells;intro j v hj
 match j, hj with
 | 0, hj => obtain rfl := Option.some.inj hj; exact k0
 | 1, hj => obtain rfl := Option.some.inj hj; exact k1
 | 2, hj => obtain rfl := Option.some.inj hj; exact k2
 | 3, hj => obtain rfl := Option.some.inj hj; exact k3
 | 4, hj => obtain rfl := Option.some.inj hj; exact k4
 | j + 5, hj => cases hj
theorem RAt.autos {w0 w : World} {g : Nat} {V : Vw} {m : Mv} (h : RAt w0 w g V m) : w.rangeAt g 5 [.int .i64 V.a.st, .int .i64 V.a.id, .int .i64 V.a.req, m.av, .int .i64 V.a.count, .int .i64 V.a.timer, .int .i64 V.a.naks] := by
 obtain ⟨k0, k1, k2, k3, k4, k5, k6, k7, k8, k9, k10, k11, k12, k13, k14, k15, k16, k17, k18, k19, k20⟩ := h.cells;intro j v hj
 match j, hj with
 | 0, hj => obtain rfl := Option.some.inj hj; exact k5
 | 1, hj => obtain rfl := Option.some.inj hj; exact k6
 | 2, hj => obtain rfl := Option.some.inj hj; exact k7
 | 3, hj => obtain rfl := Option.some.inj hj; exact k8
 | 4, hj => obtain rfl := Option.some.inj hj; exact k9
 | 5, hj => obtain rfl := Option.some.inj hj; exact k10
 | 6, hj => obtain rfl := Option.some.inj hj; exact k11
 | j + 7, hj => cases hj
theorem sc_ : (Tryz.prog.info? 24).map (·.size) = some 5 := by kernel_rfl
theorem sa_ : (Tryz.prog.info? 28).map (·.size) = some 7 := by kernel_rfl
theorem timeout_any (g : Nat) (V : Vw) (w0 w : World) (h : RV w0 w g V) (hf : fine V.c V.a V.t) (h1 : V.out = []) (h2 : V.done = []) :
 Calls Tryz.prog 45 #[.pointer (some ⟨g, 0, none⟩)] w fun e w' => e = .returned (.tuple #[]) /\ ∃ dv, RV w0 w' g (V.went (doE V.c V.a (if 0 < V.a.count then 5 else 6) V.q V.n V.t) dv) := by
 obtain ⟨m, hm⟩ := h;obtain ⟨k0, k1, k2, k3, k4, k5, k6, k7, k8, k9, k10, k11, k12, k13, k14, k15, k16, k17, k18, k19, k20⟩ := hm.cells;have E := hd_ (fun ev => ea_ g V ev w0 w ⟨m, hm⟩ hf h1 h2);clear hm hf h1 h2 k0 k1 k2 k3 k4 k5 k6 k7 k8 k10 k11 k12 k13 k14 k15 k16 k17 k18 k19 k20
 by_cases hc : 0 < V.a.count
 · rw [if_pos hc];go_enter Tryz.func45, Tryz.ntmps45
   go_wp2_with fail
   refine (E.out 5).mono ?_;rintro e w2 ⟨rfl, h2⟩;have H2 := hd_ h2;clear h2;go_wp2_with fail
   go_end0
   exact ⟨rfl, H2.out⟩
 · rw [if_neg hc];go_enter Tryz.func45, Tryz.ntmps45
   go_wp2_with fail
   refine (E.out 6).mono ?_;rintro e w2 ⟨rfl, h2⟩;have H2 := hd_ h2;clear h2;go_wp2_with fail
   go_end0
   exact ⟨rfl, H2.out⟩
set_option maxRecDepth 20000 in
set_option maxHeartbeats 4000000 in
theorem due_any (g : Nat) (V : Vw) (w0 w : World) (h : RV w0 w g V) :
 Calls Tryz.prog 44 #[.pointer (some ⟨g, 0, none⟩)] w fun e w' => e = .returned (.bool (decide (0 < V.a.timer /\ V.a.timer <= V.t))) /\ RV w0 w' g V := by
 obtain ⟨m, hm⟩ := h;have HR := hd_ hm;clear hm
 by_cases h1 : 0 < V.a.timer
 · by_cases h2 : V.a.timer <= V.t
   · rw [decide_eq_true (And.intro h1 h2)];go_enter Tryz.func44, Tryz.ntmps44
     go_upto_region 1 with fail
     have HC : Hid (Gr w w.drew) := Gr.drew _;refine wr_ 19 Gr (by kernel_rfl) ?_;generalize w.drew = wc at HC ⊢;refine wg_ preGr 0 (some 3) ?_;refine wg_ preGr 1 (some 4) ?_;refine wg_ preGr 2 (some 5) ?_;refine wg_ preGr 3 (some 6) ?_;refine wg_ preGr 4 (some 7) ?_ (hy := fun w' hw' => by
      try (have hq2 := (HR.out.gr (Gr.trans HC.out hw')).cells; obtain ⟨k0, k1, k2, k3, k4, k5, k6, k7, k8, k9, k10, k11, k12, k13, k14, k15, k16, k17, k18, k19, k20⟩ := hq2; clear k0 k1 k2 k3 k4 k5 k6 k7 k8 k9 k11 k13 k14 k15 k16 k17 k18 k19 k20)
      go_simp;with_reducible rfl)
     refine wg_ preGr 5 (some 8) ?_;refine wg_ preGr 6 (some 9) ?_;refine wg_ preGr 7 (some 10) ?_;refine wg_ preGr 8 (some 11) ?_;refine wg_ preGr 9 (some 12) ?_;refine wg_ preGr 10 (some 13) ?_;refine wg_ preGr 11 (some 14) ?_ (hy := fun w' hw' => by
      try (have hq2 := (HR.out.gr (Gr.trans HC.out hw')).cells; obtain ⟨k0, k1, k2, k3, k4, k5, k6, k7, k8, k9, k10, k11, k12, k13, k14, k15, k16, k17, k18, k19, k20⟩ := hq2; clear k0 k1 k2 k3 k4 k5 k6 k7 k8 k9 k11 k13 k14 k15 k16 k17 k18 k19 k20)
      go_simp;with_reducible rfl)
     refine wg_ preGr 12 (some 15) ?_;refine wg_ preGr 13 (some 16) ?_;refine wg_ preGr 14 (some 17) ?_;refine wg_ preGr 15 (some 18) ?_ (hy := fun w' hw' => by
      try (have hq2 := (HR.out.gr (Gr.trans HC.out hw')).cells; obtain ⟨k0, k1, k2, k3, k4, k5, k6, k7, k8, k9, k10, k11, k12, k13, k14, k15, k16, k17, k18, k19, k20⟩ := hq2; clear k0 k1 k2 k3 k4 k5 k6 k7 k8 k9 k11 k13 k14 k15 k16 k17 k18 k19 k20)
      go_simp;with_reducible rfl)
     refine wg_ preGr 16 (some 19) ?_;refine wg_ preGr 17 (some 20) ?_;refine wg_ preGr 18 (some 2) ?_;refine wg1 (by kernel_rfl) ?_ _;go_wp2
     go_ret
     exact ⟨rfl, m, HR.out.gr HC.out⟩
   · rw [decide_eq_false (fun h => h2 h.2)];have h3 : decide (V.a.timer <= V.t) = false := decide_eq_false h2;go_enter Tryz.func44, Tryz.ntmps44
     go_upto_region 1 with fail
     have HC : Hid (Gr w w.drew) := Gr.drew _;refine wr_ 19 Gr (by kernel_rfl) ?_;generalize w.drew = wc at HC ⊢;refine wg_ preGr 0 (some 3) ?_;refine wg_ preGr 1 (some 4) ?_;refine wg_ preGr 2 (some 5) ?_;refine wg_ preGr 3 (some 6) ?_;refine wg_ preGr 4 (some 7) ?_ (hy := fun w' hw' => by
      try (have hq2 := (HR.out.gr (Gr.trans HC.out hw')).cells; obtain ⟨k0, k1, k2, k3, k4, k5, k6, k7, k8, k9, k10, k11, k12, k13, k14, k15, k16, k17, k18, k19, k20⟩ := hq2; clear k0 k1 k2 k3 k4 k5 k6 k7 k8 k9 k11 k13 k14 k15 k16 k17 k18 k19 k20)
      go_simp;with_reducible rfl)
     refine wg_ preGr 5 (some 8) ?_;refine wg_ preGr 6 (some 9) ?_;refine wg_ preGr 7 (some 10) ?_;refine wg_ preGr 8 (some 11) ?_;refine wg_ preGr 9 (some 12) ?_;refine wg_ preGr 10 (some 13) ?_;refine wg_ preGr 11 (some 14) ?_ (hy := fun w' hw' => by
      try (have hq2 := (HR.out.gr (Gr.trans HC.out hw')).cells; obtain ⟨k0, k1, k2, k3, k4, k5, k6, k7, k8, k9, k10, k11, k12, k13, k14, k15, k16, k17, k18, k19, k20⟩ := hq2; clear k0 k1 k2 k3 k4 k5 k6 k7 k8 k9 k11 k13 k14 k15 k16 k17 k18 k19 k20)
      go_simp;with_reducible rfl)
     refine wg_ preGr 12 (some 15) ?_;refine wg_ preGr 13 (some 16) ?_;refine wg_ preGr 14 (some 17) ?_;refine wg_ preGr 15 (some 18) ?_ (hy := fun w' hw' => by
      try (have hq2 := (HR.out.gr (Gr.trans HC.out hw')).cells; obtain ⟨k0, k1, k2, k3, k4, k5, k6, k7, k8, k9, k10, k11, k12, k13, k14, k15, k16, k17, k18, k19, k20⟩ := hq2; clear k0 k1 k2 k3 k4 k5 k6 k7 k8 k9 k11 k13 k14 k15 k16 k17 k18 k19 k20)
      go_simp;with_reducible rfl)
     refine wg_ preGr 16 (some 19) ?_;refine wg_ preGr 17 (some 20) ?_;refine wg_ preGr 18 (some 2) ?_;refine wg1 (by kernel_rfl) ?_ _;go_wp2
     go_ret
     exact ⟨rfl, m, HR.out.gr HC.out⟩
 · rw [decide_eq_false (fun h => h1 h.1)];have h3 : decide (0 < V.a.timer) = false := decide_eq_false h1;go_enter Tryz.func44, Tryz.ntmps44
   go_upto_region 1 with fail
   have HC : Hid (Gr w w.drew) := Gr.drew _;refine wr_ 19 Gr (by kernel_rfl) ?_;generalize w.drew = wc at HC ⊢;refine wg_ preGr 0 (some 3) ?_;refine wg_ preGr 1 (some 4) ?_;refine wg_ preGr 2 (some 5) ?_;refine wg_ preGr 3 (some 6) ?_;refine wg_ preGr 4 (some 7) ?_ (hy := fun w' hw' => by
    try (have hq2 := (HR.out.gr (Gr.trans HC.out hw')).cells; obtain ⟨k0, k1, k2, k3, k4, k5, k6, k7, k8, k9, k10, k11, k12, k13, k14, k15, k16, k17, k18, k19, k20⟩ := hq2; clear k0 k1 k2 k3 k4 k5 k6 k7 k8 k9 k11 k13 k14 k15 k16 k17 k18 k19 k20)
    go_simp;with_reducible rfl)
   refine wg_ preGr 5 (some 8) ?_;refine wg_ preGr 6 (some 9) ?_;refine wg3 preGr 7 (some 10) ?_;refine wg3 preGr 8 (some 11) ?_;refine wg3 preGr 9 (some 12) ?_;refine wg3 preGr 10 (some 13) ?_;refine wg3 preGr 11 (some 14) ?_;refine wg3 preGr 12 (some 15) ?_;refine wg3 preGr 13 (some 16) ?_;refine wg3 preGr 14 (some 17) ?_;refine wg3 preGr 15 (some 18) ?_;refine wg3 preGr 16 (some 19) ?_;refine wg_ preGr 17 (some 20) ?_;refine wg_ preGr 18 (some 2) ?_;refine wg1 (by kernel_rfl) ?_ _;go_wp2
   go_ret
   exact ⟨rfl, m, HR.out.gr HC.out⟩
def autoC (a : Aut) (av : Value) : List Value := [.int .i64 a.st, .int .i64 a.id, .int .i64 a.req, av, .int .i64 a.count, .int .i64 a.timer, .int .i64 a.naks]
def autoV (a : Aut) (av : Value) : Value := .agg (autoC a av).toArray
theorem ac_ {a : Aut} {av : Value} (h : av.oneCell' = true) : ∀ v ∈ autoC a av, v.oneCell' = true := by
 intro v hv;simp only [autoC, List.mem_cons, List.not_mem_nil, or_false] at hv
 rcases hv with rfl | rfl | rfl | rfl | rfl | rfl | rfl
 · rfl
 · rfl
 · rfl
 · exact h
 · rfl
 · rfl
 · rfl
theorem cells21 {w : World} {g : Nat} {V : Vw} {m : Mv} {fr : Nat × Nat} (h : w.heap[g]? = some (.cells #[m.rv, .int .i64 V.c.conf, .int .i64 V.c.term, .int .i64 V.c.fail, .int .i64 V.c.wait, .int .i64 V.a.st, .int .i64 V.a.id, .int .i64 V.a.req, m.av, .int .i64 V.a.count, .int .i64 V.a.timer, .int .i64 V.a.naks, .int .i64 V.t, .int .i64 V.q.c, .int .i64 V.q.i, m.qv, .int .i64 V.n.c, .int .i64 V.n.i, m.nv, m.ov, V.dv] 75 fr)) :
 w.cell? ⟨g, 0, none⟩ = some m.rv /\ w.cell? ⟨g, 1, none⟩ = some (.int .i64 V.c.conf) /\ w.cell? ⟨g, 2, none⟩ = some (.int .i64 V.c.term) /\ w.cell? ⟨g, 3, none⟩ = some (.int .i64 V.c.fail) /\ w.cell? ⟨g, 4, none⟩ = some (.int .i64 V.c.wait) /\
 w.cell? ⟨g, 5, none⟩ = some (.int .i64 V.a.st) /\ w.cell? ⟨g, 6, none⟩ = some (.int .i64 V.a.id) /\ w.cell? ⟨g, 7, none⟩ = some (.int .i64 V.a.req) /\ w.cell? ⟨g, 8, none⟩ = some m.av /\ w.cell? ⟨g, 9, none⟩ = some (.int .i64 V.a.count) /\
 w.cell? ⟨g, 10, none⟩ = some (.int .i64 V.a.timer) /\ w.cell? ⟨g, 11, none⟩ = some (.int .i64 V.a.naks) /\ w.cell? ⟨g, 12, none⟩ = some (.int .i64 V.t) /\ w.cell? ⟨g, 13, none⟩ = some (.int .i64 V.q.c) /\ w.cell? ⟨g, 14, none⟩ = some (.int .i64 V.q.i) /\
 w.cell? ⟨g, 15, none⟩ = some m.qv /\ w.cell? ⟨g, 16, none⟩ = some (.int .i64 V.n.c) /\ w.cell? ⟨g, 17, none⟩ = some (.int .i64 V.n.i) /\ w.cell? ⟨g, 18, none⟩ = some m.nv /\ w.cell? ⟨g, 19, none⟩ = some m.ov /\ w.cell? ⟨g, 20, none⟩ = some V.dv := by
 have c := fun i => cell_of_row w g i _ _ _ h
 exact ⟨c 0, c 1, c 2, c 3, c 4, c 5, c 6, c 7, c 8, c 9, c 10, c 11, c 12, c 13, c 14, c 15, c 16, c 17, c 18, c 19, c 20⟩
theorem no_ {w : World} {g p : Nat} {e e' : TypeId} {cs cs' : Array Value} {fr fr' : Nat × Nat} (h : w.heap[g]? = some (.cells cs e fr)) (h' : w.heap[p]? = some (.cells cs' e' fr')) (he : e ≠ e') : g ≠ p := by
 intro c;subst c;rw [h] at h';simp only [Option.some.injEq, Obj.cells.injEq] at h';exact he h'.2.1
structure DAt (x : Aut × List QC × List Int) (w w' : World) (av ov dv : Value) : Prop where
 ask : ∃ ts, TO w' w.heap.size av ts /\ plain ts = x.1.ask
 out : ∃ os, CO true w' w.heap.size ov os /\ plainC os = x.2.1
 done : AO w' w.heap.size dv x.2.2
 old : Below w.heap.size w w'
theorem DRes.of {w0 w w4 w5 : World} {g p : Nat} {V : Vw} {m : Mv} {fr : Nat × Nat} {cs : Array Value} (h : RAt w0 w4 g V m) (hp : w4.heap[p]? = some (.cells cs 28 fr)) (ho : Only p w4 w5) (h1 : w.heap.size <= p) (h2 : w.heap.size <= w0.heap.size) (hb : Below w.heap.size w w0) :
 DAt (V.a, V.out, V.done) w w5 m.av m.ov V.dv := by
 refine ⟨⟨m.ts, ?_, h.hold.asks⟩, ⟨m.os, ?_, h.hold.outs⟩, ?_, ?_⟩
 · exact (TO.off h.hold.ask hp (by decide) (by decide) ho).mono h2
 · have : CO true w5 w0.heap.size m.ov m.os := ⟨oo_ h.hold.out.own hp (by decide) ho, fun t ht => oo_ (h.hold.out.vals t ht) hp (by decide) ho⟩;exact this.mono h2
 · exact or1 (oo_ h.hold.done hp (by decide) ho) h2
 · exact ho.below _ _ h1 (hb.trans (h.hold.old.mono h2))
theorem heap5 (w : World) (o p q r s : Obj) : (((((w.alloc o).alloc p).alloc q).alloc r).alloc s).heap[w.heap.size]? = some o /\ (((((w.alloc o).alloc p).alloc q).alloc r).alloc s).heap[w.heap.size + 1]? = some p /\ (((((w.alloc o).alloc p).alloc q).alloc r).alloc s).heap[w.heap.size + 2]? = some q /\
 (((((w.alloc o).alloc p).alloc q).alloc r).alloc s).heap[w.heap.size + 3]? = some r /\ (((((w.alloc o).alloc p).alloc q).alloc r).alloc s).heap[w.heap.size + 4]? = some s := by
 have hb : Gr (((w.alloc o).alloc p).alloc q) (((((w.alloc o).alloc p).alloc q).alloc r).alloc s) := ((Gr.refl _).alloc _).alloc _;obtain ⟨h1, h2, h3⟩ := heap3 w o p q;refine ⟨hb_ h1 hb, hb_ h2 hb, hb_ h3 hb, ?_, ?_⟩
 · have := h0_ (((w.alloc o).alloc p).alloc q) r s;simpa using this
 · have := h1_ (((w.alloc o).alloc p).alloc q) r s;simpa using this
set_option maxRecDepth 20000 in
set_option maxHeartbeats 4000000 in
theorem may_any (g : Nat) (V : Vw) (w0 w : World) (h : RV w0 w g V) :
 Calls Tryz.prog 30 #[.pointer (some ⟨g, 0, none⟩)] w fun e w' => e = .returned (.bool (decide (fine V.c V.a V.t))) /\ RV w0 w' g V := by
 obtain ⟨m, hm⟩ := h;have HR := hd_ hm;obtain ⟨rn, hrr⟩ := hm.hold.rules;obtain ⟨ra, rc, er, _, _⟩ := hrr.shape;obtain ⟨ao, c, ea, _, _⟩ := hm.hold.ask.tr.shape;have CK : Hid (∀ w', Gr w w' -> Calls Tryz.prog 25 #[.agg #[.int .i64 V.a.st, .int .i64 V.a.id, .int .i64 V.a.req, .slice ao m.ts.length c, .int .i64 V.a.count, .int .i64 V.a.timer, .int .i64 V.a.naks], .agg #[.slice ra rn rc, .int .i64 V.c.conf, .int .i64 V.c.term, .int .i64 V.c.fail, .int .i64 V.c.wait]] w' fun e w'' =>
  e = .returned (.int .i64 (if isC V.c /\ isA V.a then 0 else 160)) /\ Below w'.heap.size w' w'') := fun w' hw' => by
  have h' := (HR.out.gr hw').hold;have ht := h'.ask.tr;rw [ea] at ht;rw [er] at hrr;have := check_auto V.a.st V.a.id V.a.req ao m.ts.length c m.ts V.a.count V.a.timer V.a.naks ra rn rc V.c.rs V.c.conf V.c.term V.c.fail V.c.wait w' ht h'.few.1 (fun x hx => by have := h'.few.2 x hx; omega) (hrr.below h'.old);rw [h'.asks] at this;exact this
 have HEA := hd_ ea;have HER := hd_ er;obtain ⟨N, hN⟩ : ∃ N, N = m.ts.length := ⟨_, rfl⟩;rw [<- hN] at CK HEA;clear hm hrr er ea hN
 by_cases hk : isC V.c /\ isA V.a
 · rw [if_pos hk] at CK
   by_cases ht : 0 <= V.t /\ V.t <= 1099511627776
   · rw [decide_eq_true (show fine V.c V.a V.t from ⟨hk.1, hk.2, ht⟩)];have I := hd_ (ii_ (decide_eq_true ht));clear hk ht;go_enter Tryz.func30, Tryz.ntmps30
     go_upto_region 1 with fail
     have HC : Hid (Gr w w.drew) := Gr.drew _;refine wr_ 18 Gr (by kernel_rfl) ?_;generalize w.drew = wc at HC ⊢;refine wg_ preGr 0 (some 3) ?_;refine wg_ preGr 1 (some 4) ?_;refine wg_ preGr 2 (some 5) ?_;refine wg_ preGr 3 (some 6) ?_ (hy := fun w' hw' => by
      have hrg := (HR.out.gr (Gr.trans HC.out hw')).autos;rw [HEA.out] at hrg;refine Eq.trans (lm_ (P := Tryz.prog) 28 (.tmp 5) ?_ g 5 ?_ _ _ hrg Tryz.underlying28 rfl sa_) ?_
      · rfl
      · simp [go_sem]
      · with_reducible rfl)
     refine wg_ preGr 4 (some 7) ?_;refine wg_ preGr 5 (some 8) ?_;refine wg_ preGr 6 (some 9) ?_;refine wg_ preGr 7 (some 10) ?_ (hy := fun w' hw' => by
      have hrg := (HR.out.gr (Gr.trans HC.out hw')).confs;rw [HER.out] at hrg;refine Eq.trans (lm_ (P := Tryz.prog) 24 (.tmp 9) ?_ g 0 ?_ _ _ hrg Tryz.underlying24 rfl sc_) ?_
      · rfl
      · simp [go_sem]
      · with_reducible rfl)
     refine wg0 (i := 8) rfl (by kernel_rfl) (by rfl) ?_;go_simp;refine (CK.out wc HC.out).mono ?_;rintro e w3 ⟨rfl, hb3⟩;refine ⟨hb3, ?_⟩;have HC' : Hid (Gr w w3) := Gr.trans HC.out hb3;clear HC hb3;have HC := HC';clear HC'
     rename World => wc
     try simp only [Act.put, aq1, aq2, aq3]
     refine wg_ preGr 9 (some 12) ?_;refine wg_ preGr 10 (some 13) ?_;refine wg_ preGr 11 (some 14) ?_;refine wg_ preGr 12 (some 15) ?_;refine wg_ preGr 13 (some 16) ?_;refine wg_ preGr 14 (some 17) ?_ (hy := fun w' hw' => by
      try (have hq2 := (HR.out.gr (Gr.trans HC.out hw')).cells; obtain ⟨k0, k1, k2, k3, k4, k5, k6, k7, k8, k9, k10, k11, k12, k13, k14, k15, k16, k17, k18, k19, k20⟩ := hq2; clear k0 k1 k2 k3 k4 k5 k6 k7 k8 k9 k10 k11 k13 k14 k15 k16 k17 k18 k19 k20)
      go_simp;with_reducible rfl)
     refine wg0 (i := 15) rfl (by kernel_rfl) (by rfl) ?_;go_simp;refine (I.out wc).mono ?_;rintro e w3 ⟨rfl, rfl⟩;refine ⟨Gr.refl _, ?_⟩;try simp only [Act.put, aq1, aq2, aq3]
     refine wg_ preGr 16 (some 19) ?_;refine wg_ preGr 17 (some 2) ?_;refine wg1 (by kernel_rfl) ?_ _;go_wp2
     go_ret
     exact ⟨rfl, m, HR.out.gr HC.out⟩
   · rw [decide_eq_false (fun h : fine V.c V.a V.t => ht h.2.2)];have I := hd_ (ii_ (decide_eq_false ht));clear hk ht;go_enter Tryz.func30, Tryz.ntmps30
     go_upto_region 1 with fail
     have HC : Hid (Gr w w.drew) := Gr.drew _;refine wr_ 18 Gr (by kernel_rfl) ?_;generalize w.drew = wc at HC ⊢;refine wg_ preGr 0 (some 3) ?_;refine wg_ preGr 1 (some 4) ?_;refine wg_ preGr 2 (some 5) ?_;refine wg_ preGr 3 (some 6) ?_ (hy := fun w' hw' => by
      have hrg := (HR.out.gr (Gr.trans HC.out hw')).autos;rw [HEA.out] at hrg;refine Eq.trans (lm_ (P := Tryz.prog) 28 (.tmp 5) ?_ g 5 ?_ _ _ hrg Tryz.underlying28 rfl sa_) ?_
      · rfl
      · simp [go_sem]
      · with_reducible rfl)
     refine wg_ preGr 4 (some 7) ?_;refine wg_ preGr 5 (some 8) ?_;refine wg_ preGr 6 (some 9) ?_;refine wg_ preGr 7 (some 10) ?_ (hy := fun w' hw' => by
      have hrg := (HR.out.gr (Gr.trans HC.out hw')).confs;rw [HER.out] at hrg;refine Eq.trans (lm_ (P := Tryz.prog) 24 (.tmp 9) ?_ g 0 ?_ _ _ hrg Tryz.underlying24 rfl sc_) ?_
      · rfl
      · simp [go_sem]
      · with_reducible rfl)
     refine wg0 (i := 8) rfl (by kernel_rfl) (by rfl) ?_;go_simp;refine (CK.out wc HC.out).mono ?_;rintro e w3 ⟨rfl, hb3⟩;refine ⟨hb3, ?_⟩;have HC' : Hid (Gr w w3) := Gr.trans HC.out hb3;clear HC hb3;have HC := HC';clear HC'
     rename World => wc
     try simp only [Act.put, aq1, aq2, aq3]
     refine wg_ preGr 9 (some 12) ?_;refine wg_ preGr 10 (some 13) ?_;refine wg_ preGr 11 (some 14) ?_;refine wg_ preGr 12 (some 15) ?_;refine wg_ preGr 13 (some 16) ?_;refine wg_ preGr 14 (some 17) ?_ (hy := fun w' hw' => by
      try (have hq2 := (HR.out.gr (Gr.trans HC.out hw')).cells; obtain ⟨k0, k1, k2, k3, k4, k5, k6, k7, k8, k9, k10, k11, k12, k13, k14, k15, k16, k17, k18, k19, k20⟩ := hq2; clear k0 k1 k2 k3 k4 k5 k6 k7 k8 k9 k10 k11 k13 k14 k15 k16 k17 k18 k19 k20)
      go_simp;with_reducible rfl)
     refine wg0 (i := 15) rfl (by kernel_rfl) (by rfl) ?_;go_simp;refine (I.out wc).mono ?_;rintro e w3 ⟨rfl, rfl⟩;refine ⟨Gr.refl _, ?_⟩;try simp only [Act.put, aq1, aq2, aq3]
     refine wg_ preGr 16 (some 19) ?_;refine wg_ preGr 17 (some 2) ?_;refine wg1 (by kernel_rfl) ?_ _;go_wp2
     go_ret
     exact ⟨rfl, m, HR.out.gr HC.out⟩
 · rw [if_neg hk] at CK;rw [decide_eq_false (fun h : fine V.c V.a V.t => hk ⟨h.1, h.2.1⟩)];clear hk;go_enter Tryz.func30, Tryz.ntmps30
   go_upto_region 1 with fail
   have HC : Hid (Gr w w.drew) := Gr.drew _;refine wr_ 18 Gr (by kernel_rfl) ?_;generalize w.drew = wc at HC ⊢;refine wg_ preGr 0 (some 3) ?_;refine wg_ preGr 1 (some 4) ?_;refine wg_ preGr 2 (some 5) ?_;refine wg_ preGr 3 (some 6) ?_ (hy := fun w' hw' => by
    have hrg := (HR.out.gr (Gr.trans HC.out hw')).autos;rw [HEA.out] at hrg;refine Eq.trans (lm_ (P := Tryz.prog) 28 (.tmp 5) ?_ g 5 ?_ _ _ hrg Tryz.underlying28 rfl sa_) ?_
    · rfl
    · simp [go_sem]
    · with_reducible rfl)
   refine wg_ preGr 4 (some 7) ?_;refine wg_ preGr 5 (some 8) ?_;refine wg_ preGr 6 (some 9) ?_;refine wg_ preGr 7 (some 10) ?_ (hy := fun w' hw' => by
    have hrg := (HR.out.gr (Gr.trans HC.out hw')).confs;rw [HER.out] at hrg;refine Eq.trans (lm_ (P := Tryz.prog) 24 (.tmp 9) ?_ g 0 ?_ _ _ hrg Tryz.underlying24 rfl sc_) ?_
    · rfl
    · simp [go_sem]
    · with_reducible rfl)
   refine wg0 (i := 8) rfl (by kernel_rfl) (by rfl) ?_;go_simp;refine (CK.out wc HC.out).mono ?_;rintro e w3 ⟨rfl, hb3⟩;refine ⟨hb3, ?_⟩;have HC' : Hid (Gr w w3) := Gr.trans HC.out hb3;clear HC hb3;have HC := HC';clear HC'
   rename World => wc
   try simp only [Act.put, aq1, aq2, aq3]
   refine wg_ preGr 9 (some 12) ?_;refine wg_ preGr 10 (some 13) ?_;refine wg3 preGr 11 (some 14) ?_;refine wg3 preGr 12 (some 15) ?_;refine wg3 preGr 13 (some 16) ?_;refine wg3 preGr 14 (some 17) ?_;refine wg3 preGr 15 (some 18) ?_;refine wg_ preGr 16 (some 19) ?_;refine wg_ preGr 17 (some 2) ?_;refine wg1 (by kernel_rfl) ?_ _;go_wp2
   go_ret
   exact ⟨rfl, m, HR.out.gr HC.out⟩
theorem may_is (g : Nat) (V : Vw) (w0 w : World) (h : RV w0 w g V) {b : Bool} (hb : decide (fine V.c V.a V.t) = b) : Calls Tryz.prog 30 #[.pointer (some ⟨g, 0, none⟩)] w fun e w' => e = .returned (.bool b) /\ RV w0 w' g V := by
 rw [<- hb];exact may_any g V w0 w h
set_option maxRecDepth 20000 in
set_option maxHeartbeats 8000000 in
theorem Do_any (ra : Option Addr) (rn rc : Nat) (rs : List Ru) (k1 k2 k3 k4 : Int) (s i r : Int) (ao : Option Addr) (n c : Nat) (ts : List Tg) (ct tm nk : Int) (ev : Int) (qc qi : Int) (qa : Option Addr) (qn qk : Nat) (ql : List UInt8) (ac ai : Int) (aa : Option Addr) (an ak : Nat) (al : List UInt8) (t : Int) (w : World)
 (hrr : RR w (.slice ra rn rc) rn rs) (hr : TR w (.slice ao n c) n ts) (hn : n <= 1000) (hm : ∀ x ∈ ts, x.l.length <= 1000) (hq : Bs w (.slice qa qn qk) ql) (hql : ql.length <= 1500) (ha : Bs w (.slice aa an ak) al) (hal : al.length <= 1500) :
 Calls Tryz.prog 11 #[.agg #[.slice ra rn rc, .int .i64 k1, .int .i64 k2, .int .i64 k3, .int .i64 k4], .agg #[.int .i64 s, .int .i64 i, .int .i64 r, .slice ao n c, .int .i64 ct, .int .i64 tm, .int .i64 nk], .int .i64 ev, .agg #[.int .i64 qc, .int .i64 qi, .slice qa qn qk], .agg #[.int .i64 ac, .int .i64 ai, .slice aa an ak], .int .i64 t] w fun e w' => ∃ av ov dv, e = .returned (.tuple #[autoV (doE (⟨rs, k1, k2, k3, k4⟩ : Cfg) (⟨s, i, r, plain ts, ct, tm, nk⟩ : Aut) ev ⟨qc, qi, ql⟩ ⟨ac, ai, al⟩ t).1 av, ov, dv]) /\ DAt (doE (⟨rs, k1, k2, k3, k4⟩ : Cfg) (⟨s, i, r, plain ts, ct, tm, nk⟩ : Aut) ev ⟨qc, qi, ql⟩ ⟨ac, ai, al⟩ t) w w' av ov dv := by
 have BA : Gr w (((((w.alloc (.cells #[.slice ra rn rc, .int .i64 k1, .int .i64 k2, .int .i64 k3, .int .i64 k4] 24)).alloc (.cells #[.int .i64 s, .int .i64 i, .int .i64 r, .slice ao n c, .int .i64 ct, .int .i64 tm, .int .i64 nk] 28)).alloc (.cells #[.int .i64 qc, .int .i64 qi, .slice qa qn qk] 32)).alloc (.cells #[.int .i64 ac, .int .i64 ai, .slice aa an ak] 32)).alloc (.cells #[.int .i64 0, .int .i64 0, .int .i64 0, .slice none 0 0, .int .i64 0, .int .i64 0, .int .i64 0] 28)) := (((((Gr.refl w).alloc _).alloc _).alloc _).alloc _).alloc _;have HG : Hid ((((((w.alloc (.cells #[.slice ra rn rc, .int .i64 k1, .int .i64 k2, .int .i64 k3, .int .i64 k4] 24)).alloc (.cells #[.int .i64 s, .int .i64 i, .int .i64 r, .slice ao n c, .int .i64 ct, .int .i64 tm, .int .i64 nk] 28)).alloc (.cells #[.int .i64 qc, .int .i64 qi, .slice qa qn qk] 32)).alloc (.cells #[.int .i64 ac, .int .i64 ai, .slice aa an ak] 32)).alloc (.cells #[.int .i64 0, .int .i64 0, .int .i64 0, .slice none 0 0, .int .i64 0, .int .i64 0, .int .i64 0] 28)).heap[w.heap.size]? = some (.cells #[.slice ra rn rc, .int .i64 k1, .int .i64 k2, .int .i64 k3, .int .i64 k4] 24) /\ (((((w.alloc (.cells #[.slice ra rn rc, .int .i64 k1, .int .i64 k2, .int .i64 k3, .int .i64 k4] 24)).alloc (.cells #[.int .i64 s, .int .i64 i, .int .i64 r, .slice ao n c, .int .i64 ct, .int .i64 tm, .int .i64 nk] 28)).alloc (.cells #[.int .i64 qc, .int .i64 qi, .slice qa qn qk] 32)).alloc (.cells #[.int .i64 ac, .int .i64 ai, .slice aa an ak] 32)).alloc (.cells #[.int .i64 0, .int .i64 0, .int .i64 0, .slice none 0 0, .int .i64 0, .int .i64 0, .int .i64 0] 28)).heap[w.heap.size + 1]? = some (.cells #[.int .i64 s, .int .i64 i, .int .i64 r, .slice ao n c, .int .i64 ct, .int .i64 tm, .int .i64 nk] 28) /\ (((((w.alloc (.cells #[.slice ra rn rc, .int .i64 k1, .int .i64 k2, .int .i64 k3, .int .i64 k4] 24)).alloc (.cells #[.int .i64 s, .int .i64 i, .int .i64 r, .slice ao n c, .int .i64 ct, .int .i64 tm, .int .i64 nk] 28)).alloc (.cells #[.int .i64 qc, .int .i64 qi, .slice qa qn qk] 32)).alloc (.cells #[.int .i64 ac, .int .i64 ai, .slice aa an ak] 32)).alloc (.cells #[.int .i64 0, .int .i64 0, .int .i64 0, .slice none 0 0, .int .i64 0, .int .i64 0, .int .i64 0] 28)).heap[w.heap.size + 2]? = some (.cells #[.int .i64 qc, .int .i64 qi, .slice qa qn qk] 32) /\ (((((w.alloc (.cells #[.slice ra rn rc, .int .i64 k1, .int .i64 k2, .int .i64 k3, .int .i64 k4] 24)).alloc (.cells #[.int .i64 s, .int .i64 i, .int .i64 r, .slice ao n c, .int .i64 ct, .int .i64 tm, .int .i64 nk] 28)).alloc (.cells #[.int .i64 qc, .int .i64 qi, .slice qa qn qk] 32)).alloc (.cells #[.int .i64 ac, .int .i64 ai, .slice aa an ak] 32)).alloc (.cells #[.int .i64 0, .int .i64 0, .int .i64 0, .slice none 0 0, .int .i64 0, .int .i64 0, .int .i64 0] 28)).heap[w.heap.size + 3]? = some (.cells #[.int .i64 ac, .int .i64 ai, .slice aa an ak] 32) /\ (((((w.alloc (.cells #[.slice ra rn rc, .int .i64 k1, .int .i64 k2, .int .i64 k3, .int .i64 k4] 24)).alloc (.cells #[.int .i64 s, .int .i64 i, .int .i64 r, .slice ao n c, .int .i64 ct, .int .i64 tm, .int .i64 nk] 28)).alloc (.cells #[.int .i64 qc, .int .i64 qi, .slice qa qn qk] 32)).alloc (.cells #[.int .i64 ac, .int .i64 ai, .slice aa an ak] 32)).alloc (.cells #[.int .i64 0, .int .i64 0, .int .i64 0, .slice none 0 0, .int .i64 0, .int .i64 0, .int .i64 0] 28)).heap[w.heap.size + 4]? = some (.cells #[.int .i64 0, .int .i64 0, .int .i64 0, .slice none 0 0, .int .i64 0, .int .i64 0, .int .i64 0] 28)) := heap5 _ _ _ _ _ _;obtain ⟨g0, g1, g2, g3, g4⟩ := HG.out;obtain ⟨i0, i1, i2, i3, i4⟩ := cells5 g0;obtain ⟨j0, j1, j2, j3, j4, j5, j6⟩ := cells7 g1;obtain ⟨q0, q1, q2⟩ := cells3 g2;have HG3 := hd_ g3;have HG4 := hd_ g4;have BG := hd_ (begin_any ra rn rc rs k1 k2 k3 k4 s i r ao n c ts ct tm nk qc qi qa qn qk ql t (((((w.alloc (.cells #[.slice ra rn rc, .int .i64 k1, .int .i64 k2, .int .i64 k3, .int .i64 k4] 24)).alloc (.cells #[.int .i64 s, .int .i64 i, .int .i64 r, .slice ao n c, .int .i64 ct, .int .i64 tm, .int .i64 nk] 28)).alloc (.cells #[.int .i64 qc, .int .i64 qi, .slice qa qn qk] 32)).alloc (.cells #[.int .i64 ac, .int .i64 ai, .slice aa an ak] 32)).alloc (.cells #[.int .i64 0, .int .i64 0, .int .i64 0, .slice none 0 0, .int .i64 0, .int .i64 0, .int .i64 0] 28)) (hrr.below BA) (hr.below BA) hn hm (hq.below BA) hql);have HA := hd_ (ha.below BA);have HAL := hd_ hal;have HLOW : Hid (w.heap.size <= w.heap.size + 4 /\ w.heap.size <= (((((w.alloc (.cells #[.slice ra rn rc, .int .i64 k1, .int .i64 k2, .int .i64 k3, .int .i64 k4] 24)).alloc (.cells #[.int .i64 s, .int .i64 i, .int .i64 r, .slice ao n c, .int .i64 ct, .int .i64 tm, .int .i64 nk] 28)).alloc (.cells #[.int .i64 qc, .int .i64 qi, .slice qa qn qk] 32)).alloc (.cells #[.int .i64 ac, .int .i64 ai, .slice aa an ak] 32)).alloc (.cells #[.int .i64 0, .int .i64 0, .int .i64 0, .slice none 0 0, .int .i64 0, .int .i64 0, .int .i64 0] 28)).heap.size) := ⟨Nat.le_add_right _ _, BA.size⟩;have HSTART : Hid (Below w.heap.size w (((((w.alloc (.cells #[.slice ra rn rc, .int .i64 k1, .int .i64 k2, .int .i64 k3, .int .i64 k4] 24)).alloc (.cells #[.int .i64 s, .int .i64 i, .int .i64 r, .slice ao n c, .int .i64 ct, .int .i64 tm, .int .i64 nk] 28)).alloc (.cells #[.int .i64 qc, .int .i64 qi, .slice qa qn qk] 32)).alloc (.cells #[.int .i64 ac, .int .i64 ai, .slice aa an ak] 32)).alloc (.cells #[.int .i64 0, .int .i64 0, .int .i64 0, .slice none 0 0, .int .i64 0, .int .i64 0, .int .i64 0] 28))) := BA;have HPL : Hid (w.heap.size + 4 < (((((w.alloc (.cells #[.slice ra rn rc, .int .i64 k1, .int .i64 k2, .int .i64 k3, .int .i64 k4] 24)).alloc (.cells #[.int .i64 s, .int .i64 i, .int .i64 r, .slice ao n c, .int .i64 ct, .int .i64 tm, .int .i64 nk] 28)).alloc (.cells #[.int .i64 qc, .int .i64 qi, .slice qa qn qk] 32)).alloc (.cells #[.int .i64 ac, .int .i64 ai, .slice aa an ak] 32)).alloc (.cells #[.int .i64 0, .int .i64 0, .int .i64 0, .slice none 0 0, .int .i64 0, .int .i64 0, .int .i64 0] 28)).heap.size) := (Array.getElem?_eq_some_iff.1 g4).1;obtain ⟨x, hx⟩ : ∃ x, x = doE (⟨rs, k1, k2, k3, k4⟩ : Cfg) (⟨s, i, r, plain ts, ct, tm, nk⟩ : Aut) ev ⟨qc, qi, ql⟩ ⟨ac, ai, al⟩ t := ⟨_, rfl⟩;rw [<- hx];have HX := hd_ hx;clear BA hrr hr hn hm hq hql ha hal g0 g1 g2 g3 g4 HG hx;go_enter Tryz.func11, Tryz.ntmps11
 go_wp2_with fail
 obtain ⟨wb, hwb⟩ : ∃ wb, wb = (((((w.alloc (.cells #[.slice ra rn rc, .int .i64 k1, .int .i64 k2, .int .i64 k3, .int .i64 k4] 24)).alloc (.cells #[.int .i64 s, .int .i64 i, .int .i64 r, .slice ao n c, .int .i64 ct, .int .i64 tm, .int .i64 nk] 28)).alloc (.cells #[.int .i64 qc, .int .i64 qi, .slice qa qn qk] 32)).alloc (.cells #[.int .i64 ac, .int .i64 ai, .slice aa an ak] 32)).alloc (.cells #[.int .i64 0, .int .i64 0, .int .i64 0, .slice none 0 0, .int .i64 0, .int .i64 0, .int .i64 0] 28)) := ⟨_, rfl⟩;rw [<- hwb] at BG HG3 HG4 HA HLOW HSTART HPL ⊢;clear hwb i0 i1 i2 i3 i4 j0 j1 j2 j3 j4 j5 j6 q0 q1 q2;refine BG.out.mono ?_;rintro e w1 ⟨g, rfl, hv1⟩;have MB := hd_ (fun b hb => may_is g _ wb w1 hv1 (b := b) hb);clear hv1 BG
 by_cases hf : fine (⟨rs, k1, k2, k3, k4⟩ : Cfg) (⟨s, i, r, plain ts, ct, tm, nk⟩ : Aut) t
 · have M := hd_ (MB.out true (decide_eq_true hf));have HF := hd_ hf;clear hf MB;go_wp2_with fail
   refine M.out.mono ?_;rintro e w2 ⟨rfl, m, hm⟩;have HM := hd_ hm;obtain ⟨q0, q1, q2⟩ := cells3 (hb_ HG3.out hm.hold.old);clear hm M;go_wp2_with (refine wpList_store_splice rfl 32 (.tmp 26) (.tmp 24) rfl g 16 [.int .i64 ac, .int .i64 ai, .slice aa an ak] rfl rfl 75 _ HM.out.row sizeC (by simp) (oc_ _ _ rfl) ?_)
   intro w3 g3 ho3;have hr3 : RAt wb w3 g { V0 (⟨rs, k1, k2, k3, k4⟩ : Cfg) (⟨s, i, r, plain ts, ct, tm, nk⟩ : Aut) t ⟨qc, qi, ql⟩ with n := ⟨ac, ai, al⟩ } { m with nv := .slice aa an ak } := by
    refine HM.out.turn ho3 g3 fun k => ?_
    exact ⟨k.old, k.rules, k.ask, k.asks, k.q, .inr ⟨wb, Nat.le_refl _, HA.out, k.old⟩, k.out, k.outs, k.done, k.ql, HAL.out, k.few⟩
   have E := hd_ (ea_ g _ ev wb w3 ⟨_, hr3⟩ HF.out rfl rfl);clear g3 ho3 hr3 HM q0 q1 q2;go_wp2_with fail
   refine E.out.mono ?_;rintro e w4 ⟨rfl, dv, hv⟩;have HV : Hid (RV wb w4 g (Vw.went { V0 (⟨rs, k1, k2, k3, k4⟩ : Cfg) (⟨s, i, r, plain ts, ct, tm, nk⟩ : Aut) t ⟨qc, qi, ql⟩ with n := ⟨ac, ai, al⟩ } x dv)) := by
    show RV _ _ _ _;rw [HX.out];exact hv
   have HP : Hid (w4.heap[w.heap.size + 4]? = some (.cells #[.int .i64 0, .int .i64 0, .int .i64 0, .slice none 0 0, .int .i64 0, .int .i64 0, .int .i64 0] 28)) := by
    obtain ⟨m4, h4⟩ := hv;exact hb_ HG4.out h4.hold.old
   clear hv E;go_upto_region 5 with fail
   obtain ⟨m2, hm2⟩ := HV.out;have HR := hd_ hm2;have HC : Hid (Gr w4 w4.drew) := Gr.drew _;clear hm2;refine wr0 12 Gr (Kp [g]) (by kernel_rfl) ?_;generalize w4.drew = wc at HC ⊢;refine wh1 preGr (preKp _) 0 (some 30) ?_;refine wh1 preGr (preKp _) 1 (some 31) ?_;refine wh1 preGr (preKp _) 2 (some 32) ?_;refine wh1 preGr (preKp _) 3 (some 33) ?_ (hy := fun w' hw' => by
    have hrg := (HR.out.gr (Gr.trans HC.out hw')).autos;refine Eq.trans (lm_ (P := Tryz.prog) 28 (.tmp 32) ?_ g 5 ?_ _ _ hrg Tryz.underlying28 rfl sa_) ?_
    · rfl
    · simp [go_sem]
    · with_reducible rfl)
   refine wh0 preGr (preKp _) 4 (some 34) ?_;refine wh0 preGr (preKp _) 5 (some 35) ?_;refine wh0 preGr (preKp _) 6 (some 36) ?_;refine wh0 preGr (preKp _) 7 (some 37) ?_ (hy := fun w' hw' => by
    have hq2 := cells21 ((hw'.2 g (by simp)).trans (HR.out.gr HC.out).row);obtain ⟨k0, k1, k2, k3, k4, k5, k6, k7, k8, k9, k10, k11, k12, k13, k14, k15, k16, k17, k18, k19, k20⟩ := hq2;clear k0 k1 k2 k3 k4 k5 k6 k7 k8 k9 k10 k11 k12 k13 k14 k15 k16 k17 k18;go_simp;with_reducible rfl)
   refine wh0 preGr (preKp _) 8 (some 38) ?_;refine wh0 preGr (preKp _) 9 (some 39) ?_;refine wh0 preGr (preKp _) 10 (some 40) ?_;refine wh0 preGr (preKp _) 11 (some 41) ?_ (hy := fun w' hw' => by
    have hq2 := cells21 ((hw'.2 g (by simp)).trans (HR.out.gr HC.out).row);obtain ⟨k0, k1, k2, k3, k4, k5, k6, k7, k8, k9, k10, k11, k12, k13, k14, k15, k16, k17, k18, k19, k20⟩ := hq2;clear k0 k1 k2 k3 k4 k5 k6 k7 k8 k9 k10 k11 k12 k13 k14 k15 k16 k17 k18;go_simp;with_reducible rfl)
   refine wh_ (i := 12) (by decide) rfl (by kernel_rfl) (by rfl) ?_;refine ws_ (none) 28 (.tmp 12) (.tmp 33) rfl (w.heap.size + 4) (autoC x.1 m2.av) rfl rfl 28 _ (hg_ HC.out HP.out) sa_ rfl (ac_ (oo0 HR.out.hold.ask.own)) rfl ?_;intro w5 h5 ho5;have H5 := hd_ h5;have HO5 := hd_ ho5;refine ⟨⟨ho5.size, fun b hb => ?_⟩, ?_⟩
   · simp only [List.mem_cons, List.not_mem_nil, or_false] at hb;subst hb;exact ho5.heap _ (HR.out.gr HC.out).lt (no_ (HR.out.gr HC.out).row (hg_ HC.out HP.out) (by decide))
   clear h5 ho5;try simp only [Act.put, aq1, aq2, aq3]
   refine wh_ (i := 13) (by decide) rfl (by kernel_rfl) (by rfl) ?_;go_simp;refine ⟨(pr_ (preKp _) _), ?_⟩;try simp only [Act.put, aq1, aq2, aq3]
   refine wh_ (i := 14) (by decide) rfl (by kernel_rfl) (by rfl) ?_;go_simp;refine ⟨(pr_ (preKp _) _), ?_⟩;try simp only [Act.put, aq1, aq2, aq3]
   refine wh2 (by kernel_rfl) ?_ _;go_wp2
   refine bodyPost_ret (v := .tuple #[autoV x.1 m2.av, m2.ov, dv]) (rc1 (P := Tryz.prog) (fn := Tryz.f11) rfl _ _ (w.heap.size + 4) 28 _ (0, 0) _ rfl H5.out Tryz.underlying28 rfl sa_) rfl ?_;refine ⟨m2.av, m2.ov, dv, rfl, ?_⟩;exact DRes.of (HR.out.gr HC.out) (hg_ HC.out HP.out) HO5.out HLOW.out.1 HLOW.out.2 HSTART.out
 · have M := hd_ (MB.out false (decide_eq_false hf));have hx : ((⟨s, i, r, plain ts, ct, tm, nk⟩ : Aut), [], []) = x := by rw [HX.out]; exact (doE_no fun h => hf h.1).symm
   clear hf MB;go_wp2_with fail
   refine M.out.mono ?_;rintro e w4 ⟨rfl, hv⟩;obtain ⟨dv, hdv⟩ : ∃ dv, dv = (Value.slice none 0 0) := ⟨_, rfl⟩;have HV : Hid (RV wb w4 g (Vw.went (V0 (⟨rs, k1, k2, k3, k4⟩ : Cfg) (⟨s, i, r, plain ts, ct, tm, nk⟩ : Aut) t ⟨qc, qi, ql⟩) x dv)) := by
    show RV _ _ _ _;rw [<- hx, hdv];exact hv
   have HP : Hid (w4.heap[w.heap.size + 4]? = some (.cells #[.int .i64 0, .int .i64 0, .int .i64 0, .slice none 0 0, .int .i64 0, .int .i64 0, .int .i64 0] 28)) := by
    obtain ⟨m4, h4⟩ := hv;exact hb_ HG4.out h4.hold.old
   clear hv M hx hdv;go_upto_region 5 with fail
   obtain ⟨m2, hm2⟩ := HV.out;have HR := hd_ hm2;have HC : Hid (Gr w4 w4.drew) := Gr.drew _;clear hm2;refine wr0 12 Gr (Kp [g]) (by kernel_rfl) ?_;generalize w4.drew = wc at HC ⊢;refine wh1 preGr (preKp _) 0 (some 30) ?_;refine wh1 preGr (preKp _) 1 (some 31) ?_;refine wh1 preGr (preKp _) 2 (some 32) ?_;refine wh1 preGr (preKp _) 3 (some 33) ?_ (hy := fun w' hw' => by
    have hrg := (HR.out.gr (Gr.trans HC.out hw')).autos;refine Eq.trans (lm_ (P := Tryz.prog) 28 (.tmp 32) ?_ g 5 ?_ _ _ hrg Tryz.underlying28 rfl sa_) ?_
    · rfl
    · simp [go_sem]
    · with_reducible rfl)
   refine wh0 preGr (preKp _) 4 (some 34) ?_;refine wh0 preGr (preKp _) 5 (some 35) ?_;refine wh0 preGr (preKp _) 6 (some 36) ?_;refine wh0 preGr (preKp _) 7 (some 37) ?_ (hy := fun w' hw' => by
    have hq2 := cells21 ((hw'.2 g (by simp)).trans (HR.out.gr HC.out).row);obtain ⟨k0, k1, k2, k3, k4, k5, k6, k7, k8, k9, k10, k11, k12, k13, k14, k15, k16, k17, k18, k19, k20⟩ := hq2;clear k0 k1 k2 k3 k4 k5 k6 k7 k8 k9 k10 k11 k12 k13 k14 k15 k16 k17 k18;go_simp;with_reducible rfl)
   refine wh0 preGr (preKp _) 8 (some 38) ?_;refine wh0 preGr (preKp _) 9 (some 39) ?_;refine wh0 preGr (preKp _) 10 (some 40) ?_;refine wh0 preGr (preKp _) 11 (some 41) ?_ (hy := fun w' hw' => by
    have hq2 := cells21 ((hw'.2 g (by simp)).trans (HR.out.gr HC.out).row);obtain ⟨k0, k1, k2, k3, k4, k5, k6, k7, k8, k9, k10, k11, k12, k13, k14, k15, k16, k17, k18, k19, k20⟩ := hq2;clear k0 k1 k2 k3 k4 k5 k6 k7 k8 k9 k10 k11 k12 k13 k14 k15 k16 k17 k18;go_simp;with_reducible rfl)
   refine wh_ (i := 12) (by decide) rfl (by kernel_rfl) (by rfl) ?_;refine ws_ (none) 28 (.tmp 12) (.tmp 33) rfl (w.heap.size + 4) (autoC x.1 m2.av) rfl rfl 28 _ (hg_ HC.out HP.out) sa_ rfl (ac_ (oo0 HR.out.hold.ask.own)) rfl ?_;intro w5 h5 ho5;have H5 := hd_ h5;have HO5 := hd_ ho5;refine ⟨⟨ho5.size, fun b hb => ?_⟩, ?_⟩
   · simp only [List.mem_cons, List.not_mem_nil, or_false] at hb;subst hb;exact ho5.heap _ (HR.out.gr HC.out).lt (no_ (HR.out.gr HC.out).row (hg_ HC.out HP.out) (by decide))
   clear h5 ho5;try simp only [Act.put, aq1, aq2, aq3]
   refine wh_ (i := 13) (by decide) rfl (by kernel_rfl) (by rfl) ?_;go_simp;refine ⟨(pr_ (preKp _) _), ?_⟩;try simp only [Act.put, aq1, aq2, aq3]
   refine wh_ (i := 14) (by decide) rfl (by kernel_rfl) (by rfl) ?_;go_simp;refine ⟨(pr_ (preKp _) _), ?_⟩;try simp only [Act.put, aq1, aq2, aq3]
   refine wh2 (by kernel_rfl) ?_ _;go_wp2
   refine bodyPost_ret (v := .tuple #[autoV x.1 m2.av, m2.ov, dv]) (rc1 (P := Tryz.prog) (fn := Tryz.f11) rfl _ _ (w.heap.size + 4) 28 _ (0, 0) _ rfl H5.out Tryz.underlying28 rfl sa_) rfl ?_;refine ⟨m2.av, m2.ov, dv, rfl, ?_⟩;exact DRes.of (HR.out.gr HC.out) (hg_ HC.out HP.out) HO5.out HLOW.out.1 HLOW.out.2 HSTART.out
theorem due_is (g : Nat) (V : Vw) (w0 w : World) (h : RV w0 w g V) {b : Bool} (hb : decide (0 < V.a.timer /\ V.a.timer <= V.t) = b) : Calls Tryz.prog 44 #[.pointer (some ⟨g, 0, none⟩)] w fun e w' => e = .returned (.bool b) /\ RV w0 w' g V := by
 rw [<- hb];exact due_any g V w0 w h
set_option maxRecDepth 20000 in
set_option maxHeartbeats 8000000 in
theorem Timeout_any (ra : Option Addr) (rn rc : Nat) (rs : List Ru) (k1 k2 k3 k4 : Int) (s i r : Int) (ao : Option Addr) (n c : Nat) (ts : List Tg) (ct tm nk : Int) (t : Int) (w : World)
 (hrr : RR w (.slice ra rn rc) rn rs) (hr : TR w (.slice ao n c) n ts) (hn : n <= 1000) (hm : ∀ x ∈ ts, x.l.length <= 1000) :
 Calls Tryz.prog 19 #[.agg #[.slice ra rn rc, .int .i64 k1, .int .i64 k2, .int .i64 k3, .int .i64 k4], .agg #[.int .i64 s, .int .i64 i, .int .i64 r, .slice ao n c, .int .i64 ct, .int .i64 tm, .int .i64 nk], .int .i64 t] w fun e w' => ∃ av ov dv, e = .returned (.tuple #[autoV (tmo (⟨rs, k1, k2, k3, k4⟩ : Cfg) (⟨s, i, r, plain ts, ct, tm, nk⟩ : Aut) t).1 av, ov, dv]) /\ DAt (tmo (⟨rs, k1, k2, k3, k4⟩ : Cfg) (⟨s, i, r, plain ts, ct, tm, nk⟩ : Aut) t) w w' av ov dv := by
 have BA : Gr w (((w.alloc (.cells #[.slice ra rn rc, .int .i64 k1, .int .i64 k2, .int .i64 k3, .int .i64 k4] 24)).alloc (.cells #[.int .i64 s, .int .i64 i, .int .i64 r, .slice ao n c, .int .i64 ct, .int .i64 tm, .int .i64 nk] 28)).alloc (.cells #[.int .i64 0, .int .i64 0, .int .i64 0, .slice none 0 0, .int .i64 0, .int .i64 0, .int .i64 0] 28)) := (((Gr.refl w).alloc _).alloc _).alloc _;obtain ⟨g0, g1, g2⟩ := heap3 w (.cells #[.slice ra rn rc, .int .i64 k1, .int .i64 k2, .int .i64 k3, .int .i64 k4] 24) (.cells #[.int .i64 s, .int .i64 i, .int .i64 r, .slice ao n c, .int .i64 ct, .int .i64 tm, .int .i64 nk] 28) (.cells #[.int .i64 0, .int .i64 0, .int .i64 0, .slice none 0 0, .int .i64 0, .int .i64 0, .int .i64 0] 28);obtain ⟨i0, i1, i2, i3, i4⟩ := cells5 g0;obtain ⟨j0, j1, j2, j3, j4, j5, j6⟩ := cells7 g1;have HG4 := hd_ g2;have BG := hd_ (begin_any ra rn rc rs k1 k2 k3 k4 s i r ao n c ts ct tm nk 0 0 none 0 0 [] t (((w.alloc (.cells #[.slice ra rn rc, .int .i64 k1, .int .i64 k2, .int .i64 k3, .int .i64 k4] 24)).alloc (.cells #[.int .i64 s, .int .i64 i, .int .i64 r, .slice ao n c, .int .i64 ct, .int .i64 tm, .int .i64 nk] 28)).alloc (.cells #[.int .i64 0, .int .i64 0, .int .i64 0, .slice none 0 0, .int .i64 0, .int .i64 0, .int .i64 0] 28)) (hrr.below BA) (hr.below BA) hn hm (Bs.nil _) (Nat.zero_le _));have HLOW : Hid (w.heap.size <= w.heap.size + 2 /\ w.heap.size <= (((w.alloc (.cells #[.slice ra rn rc, .int .i64 k1, .int .i64 k2, .int .i64 k3, .int .i64 k4] 24)).alloc (.cells #[.int .i64 s, .int .i64 i, .int .i64 r, .slice ao n c, .int .i64 ct, .int .i64 tm, .int .i64 nk] 28)).alloc (.cells #[.int .i64 0, .int .i64 0, .int .i64 0, .slice none 0 0, .int .i64 0, .int .i64 0, .int .i64 0] 28)).heap.size) := ⟨Nat.le_add_right _ _, BA.size⟩;have HSTART : Hid (Below w.heap.size w (((w.alloc (.cells #[.slice ra rn rc, .int .i64 k1, .int .i64 k2, .int .i64 k3, .int .i64 k4] 24)).alloc (.cells #[.int .i64 s, .int .i64 i, .int .i64 r, .slice ao n c, .int .i64 ct, .int .i64 tm, .int .i64 nk] 28)).alloc (.cells #[.int .i64 0, .int .i64 0, .int .i64 0, .slice none 0 0, .int .i64 0, .int .i64 0, .int .i64 0] 28))) := BA;obtain ⟨x, hx⟩ : ∃ x, x = tmo (⟨rs, k1, k2, k3, k4⟩ : Cfg) (⟨s, i, r, plain ts, ct, tm, nk⟩ : Aut) t := ⟨_, rfl⟩;rw [<- hx];have HX := hd_ hx;clear BA hrr hr hn hm g0 g1 g2 hx;go_enter Tryz.func19, Tryz.ntmps19
 go_wp2_with fail
 obtain ⟨wb, hwb⟩ : ∃ wb, wb = (((w.alloc (.cells #[.slice ra rn rc, .int .i64 k1, .int .i64 k2, .int .i64 k3, .int .i64 k4] 24)).alloc (.cells #[.int .i64 s, .int .i64 i, .int .i64 r, .slice ao n c, .int .i64 ct, .int .i64 tm, .int .i64 nk] 28)).alloc (.cells #[.int .i64 0, .int .i64 0, .int .i64 0, .slice none 0 0, .int .i64 0, .int .i64 0, .int .i64 0] 28)) := ⟨_, rfl⟩;rw [<- hwb] at BG HG4 HLOW HSTART ⊢;clear hwb i0 i1 i2 i3 i4 j0 j1 j2 j3 j4 j5 j6;refine BG.out.mono ?_;rintro e w1 ⟨g, rfl, hv1⟩;have MB := hd_ (fun b hb => may_is g _ wb w1 hv1 (b := b) hb);clear hv1 BG
 by_cases hf : fine (⟨rs, k1, k2, k3, k4⟩ : Cfg) (⟨s, i, r, plain ts, ct, tm, nk⟩ : Aut) t
 · have M := hd_ (MB.out true (decide_eq_true hf));have HF := hd_ hf;clear hf MB
   by_cases hd : 0 < tm /\ tm <= t
   · have hx : doE (⟨rs, k1, k2, k3, k4⟩ : Cfg) (⟨s, i, r, plain ts, ct, tm, nk⟩ : Aut) (if 0 < ct then 5 else 6) QC.zero QC.zero t = x := by
      rw [HX.out];unfold tmo;rw [if_neg (show ¬ (tm = 0 \/ t < tm) by omega)]
     have HD := hd_ hd;have HX2 := hd_ hx;clear hd hx;go_wp2_with fail
     refine M.out.mono ?_;rintro e w2 ⟨rfl, h2⟩;have D := hd_ (due_is g _ wb w2 h2 (decide_eq_true HD.out));clear h2;go_wp2_with fail
     refine D.out.mono ?_;rintro e w3 ⟨rfl, h3⟩;have E := hd_ (timeout_any g _ wb w3 h3 HF.out rfl rfl);clear h3 D;go_wp2_with fail
     refine E.out.mono ?_;rintro e w4 ⟨rfl, dv, hv⟩;have HV : Hid (RV wb w4 g (Vw.went (V0 (⟨rs, k1, k2, k3, k4⟩ : Cfg) (⟨s, i, r, plain ts, ct, tm, nk⟩ : Aut) t ⟨0, 0, []⟩) x dv)) := by
      show RV _ _ _ _;rw [<- HX2.out];exact hv
     have HP : Hid (w4.heap[w.heap.size + 2]? = some (.cells #[.int .i64 0, .int .i64 0, .int .i64 0, .slice none 0 0, .int .i64 0, .int .i64 0, .int .i64 0] 28)) := by
      obtain ⟨m4, h4⟩ := hv;exact hb_ HG4.out h4.hold.old
     clear hv E;go_upto_region 4 with fail
     obtain ⟨m2, hm2⟩ := HV.out;have HR := hd_ hm2;have HC : Hid (Gr w4 w4.drew) := Gr.drew _;clear hm2;refine wr0 12 Gr (Kp [g]) (by kernel_rfl) ?_;generalize w4.drew = wc at HC ⊢;refine wh1 preGr (preKp _) 0 (some 23) ?_;refine wh1 preGr (preKp _) 1 (some 24) ?_;refine wh1 preGr (preKp _) 2 (some 25) ?_;refine wh1 preGr (preKp _) 3 (some 26) ?_ (hy := fun w' hw' => by
      have hrg := (HR.out.gr (Gr.trans HC.out hw')).autos;refine Eq.trans (lm_ (P := Tryz.prog) 28 (.tmp 25) ?_ g 5 ?_ _ _ hrg Tryz.underlying28 rfl sa_) ?_
      · rfl
      · simp [go_sem]
      · with_reducible rfl)
     refine wh0 preGr (preKp _) 4 (some 27) ?_;refine wh0 preGr (preKp _) 5 (some 28) ?_;refine wh0 preGr (preKp _) 6 (some 29) ?_;refine wh0 preGr (preKp _) 7 (some 30) ?_ (hy := fun w' hw' => by
      have hq2 := cells21 ((hw'.2 g (by simp)).trans (HR.out.gr HC.out).row);obtain ⟨k0, k1, k2, k3, k4, k5, k6, k7, k8, k9, k10, k11, k12, k13, k14, k15, k16, k17, k18, k19, k20⟩ := hq2;clear k0 k1 k2 k3 k4 k5 k6 k7 k8 k9 k10 k11 k12 k13 k14 k15 k16 k17 k18;go_simp;with_reducible rfl)
     refine wh0 preGr (preKp _) 8 (some 31) ?_;refine wh0 preGr (preKp _) 9 (some 32) ?_;refine wh0 preGr (preKp _) 10 (some 33) ?_;refine wh0 preGr (preKp _) 11 (some 34) ?_ (hy := fun w' hw' => by
      have hq2 := cells21 ((hw'.2 g (by simp)).trans (HR.out.gr HC.out).row);obtain ⟨k0, k1, k2, k3, k4, k5, k6, k7, k8, k9, k10, k11, k12, k13, k14, k15, k16, k17, k18, k19, k20⟩ := hq2;clear k0 k1 k2 k3 k4 k5 k6 k7 k8 k9 k10 k11 k12 k13 k14 k15 k16 k17 k18;go_simp;with_reducible rfl)
     refine wh_ (i := 12) (by decide) rfl (by kernel_rfl) (by rfl) ?_;refine ws_ (none) 28 (.tmp 6) (.tmp 26) rfl (w.heap.size + 2) (autoC x.1 m2.av) rfl rfl 28 _ (hg_ HC.out HP.out) sa_ rfl (ac_ (oo0 HR.out.hold.ask.own)) rfl ?_;intro w5 h5 ho5;have H5 := hd_ h5;have HO5 := hd_ ho5;refine ⟨⟨ho5.size, fun b hb => ?_⟩, ?_⟩
     · simp only [List.mem_cons, List.not_mem_nil, or_false] at hb;subst hb;exact ho5.heap _ (HR.out.gr HC.out).lt (no_ (HR.out.gr HC.out).row (hg_ HC.out HP.out) (by decide))
     clear h5 ho5;try simp only [Act.put, aq1, aq2, aq3]
     refine wh_ (i := 13) (by decide) rfl (by kernel_rfl) (by rfl) ?_;go_simp;refine ⟨(pr_ (preKp _) _), ?_⟩;try simp only [Act.put, aq1, aq2, aq3]
     refine wh_ (i := 14) (by decide) rfl (by kernel_rfl) (by rfl) ?_;go_simp;refine ⟨(pr_ (preKp _) _), ?_⟩;try simp only [Act.put, aq1, aq2, aq3]
     refine wh2 (by kernel_rfl) ?_ _;go_wp2
     refine bodyPost_ret (v := .tuple #[autoV x.1 m2.av, m2.ov, dv]) (rc1 (P := Tryz.prog) (fn := Tryz.f19) rfl _ _ (w.heap.size + 2) 28 _ (0, 0) _ rfl H5.out Tryz.underlying28 rfl sa_) rfl ?_;refine ⟨m2.av, m2.ov, dv, rfl, ?_⟩;exact DRes.of (HR.out.gr HC.out) (hg_ HC.out HP.out) HO5.out HLOW.out.1 HLOW.out.2 HSTART.out
   · have hx : ((⟨s, i, r, plain ts, ct, tm, nk⟩ : Aut), [], []) = x := by
      rw [HX.out];unfold tmo;have h0 : tm = 0 \/ t < tm := by
       have h1 := HF.out.2.1.2.2.2.2.2.2;have h2 : 0 <= tm := by
        show (0 : Int) <= tm;cases ht : Fs.timed s with
        | true => have h3 : 1 <= tm := (h1.1 ht).1; omega
        | false => have h3 : tm = 0 := h1.2 ht; omega
       omega
      rw [if_pos h0]
     have HD := hd_ hd;clear hd;go_wp2_with fail
     refine M.out.mono ?_;rintro e w2 ⟨rfl, h2⟩;have D := hd_ (due_is g _ wb w2 h2 (decide_eq_false HD.out));clear h2;go_wp2_with fail
     refine D.out.mono ?_;rintro e w4 ⟨rfl, hv⟩;obtain ⟨dv, hdv⟩ : ∃ dv, dv = (Value.slice none 0 0) := ⟨_, rfl⟩;have HV : Hid (RV wb w4 g (Vw.went (V0 (⟨rs, k1, k2, k3, k4⟩ : Cfg) (⟨s, i, r, plain ts, ct, tm, nk⟩ : Aut) t ⟨0, 0, []⟩) x dv)) := by
      show RV _ _ _ _;rw [<- hx, hdv];exact hv
     have HP : Hid (w4.heap[w.heap.size + 2]? = some (.cells #[.int .i64 0, .int .i64 0, .int .i64 0, .slice none 0 0, .int .i64 0, .int .i64 0, .int .i64 0] 28)) := by
      obtain ⟨m4, h4⟩ := hv;exact hb_ HG4.out h4.hold.old
     clear hv M D hx hdv;go_upto_region 4 with fail
     obtain ⟨m2, hm2⟩ := HV.out;have HR := hd_ hm2;have HC : Hid (Gr w4 w4.drew) := Gr.drew _;clear hm2;refine wr0 12 Gr (Kp [g]) (by kernel_rfl) ?_;generalize w4.drew = wc at HC ⊢;refine wh1 preGr (preKp _) 0 (some 23) ?_;refine wh1 preGr (preKp _) 1 (some 24) ?_;refine wh1 preGr (preKp _) 2 (some 25) ?_;refine wh1 preGr (preKp _) 3 (some 26) ?_ (hy := fun w' hw' => by
      have hrg := (HR.out.gr (Gr.trans HC.out hw')).autos;refine Eq.trans (lm_ (P := Tryz.prog) 28 (.tmp 25) ?_ g 5 ?_ _ _ hrg Tryz.underlying28 rfl sa_) ?_
      · rfl
      · simp [go_sem]
      · with_reducible rfl)
     refine wh0 preGr (preKp _) 4 (some 27) ?_;refine wh0 preGr (preKp _) 5 (some 28) ?_;refine wh0 preGr (preKp _) 6 (some 29) ?_;refine wh0 preGr (preKp _) 7 (some 30) ?_ (hy := fun w' hw' => by
      have hq2 := cells21 ((hw'.2 g (by simp)).trans (HR.out.gr HC.out).row);obtain ⟨k0, k1, k2, k3, k4, k5, k6, k7, k8, k9, k10, k11, k12, k13, k14, k15, k16, k17, k18, k19, k20⟩ := hq2;clear k0 k1 k2 k3 k4 k5 k6 k7 k8 k9 k10 k11 k12 k13 k14 k15 k16 k17 k18;go_simp;with_reducible rfl)
     refine wh0 preGr (preKp _) 8 (some 31) ?_;refine wh0 preGr (preKp _) 9 (some 32) ?_;refine wh0 preGr (preKp _) 10 (some 33) ?_;refine wh0 preGr (preKp _) 11 (some 34) ?_ (hy := fun w' hw' => by
      have hq2 := cells21 ((hw'.2 g (by simp)).trans (HR.out.gr HC.out).row);obtain ⟨k0, k1, k2, k3, k4, k5, k6, k7, k8, k9, k10, k11, k12, k13, k14, k15, k16, k17, k18, k19, k20⟩ := hq2;clear k0 k1 k2 k3 k4 k5 k6 k7 k8 k9 k10 k11 k12 k13 k14 k15 k16 k17 k18;go_simp;with_reducible rfl)
     refine wh_ (i := 12) (by decide) rfl (by kernel_rfl) (by rfl) ?_;refine ws_ (none) 28 (.tmp 6) (.tmp 26) rfl (w.heap.size + 2) (autoC x.1 m2.av) rfl rfl 28 _ (hg_ HC.out HP.out) sa_ rfl (ac_ (oo0 HR.out.hold.ask.own)) rfl ?_;intro w5 h5 ho5;have H5 := hd_ h5;have HO5 := hd_ ho5;refine ⟨⟨ho5.size, fun b hb => ?_⟩, ?_⟩
     · simp only [List.mem_cons, List.not_mem_nil, or_false] at hb;subst hb;exact ho5.heap _ (HR.out.gr HC.out).lt (no_ (HR.out.gr HC.out).row (hg_ HC.out HP.out) (by decide))
     clear h5 ho5;try simp only [Act.put, aq1, aq2, aq3]
     refine wh_ (i := 13) (by decide) rfl (by kernel_rfl) (by rfl) ?_;go_simp;refine ⟨(pr_ (preKp _) _), ?_⟩;try simp only [Act.put, aq1, aq2, aq3]
     refine wh_ (i := 14) (by decide) rfl (by kernel_rfl) (by rfl) ?_;go_simp;refine ⟨(pr_ (preKp _) _), ?_⟩;try simp only [Act.put, aq1, aq2, aq3]
     refine wh2 (by kernel_rfl) ?_ _;go_wp2
     refine bodyPost_ret (v := .tuple #[autoV x.1 m2.av, m2.ov, dv]) (rc1 (P := Tryz.prog) (fn := Tryz.f19) rfl _ _ (w.heap.size + 2) 28 _ (0, 0) _ rfl H5.out Tryz.underlying28 rfl sa_) rfl ?_;refine ⟨m2.av, m2.ov, dv, rfl, ?_⟩;exact DRes.of (HR.out.gr HC.out) (hg_ HC.out HP.out) HO5.out HLOW.out.1 HLOW.out.2 HSTART.out
 · have M := hd_ (MB.out false (decide_eq_false hf));have hx : ((⟨s, i, r, plain ts, ct, tm, nk⟩ : Aut), [], []) = x := by
    rw [HX.out];unfold tmo;split
    · rfl
    · exact (doE_no fun h => hf h.1).symm
   clear hf MB;go_wp2_with fail
   refine M.out.mono ?_;rintro e w4 ⟨rfl, hv⟩;obtain ⟨dv, hdv⟩ : ∃ dv, dv = (Value.slice none 0 0) := ⟨_, rfl⟩;have HV : Hid (RV wb w4 g (Vw.went (V0 (⟨rs, k1, k2, k3, k4⟩ : Cfg) (⟨s, i, r, plain ts, ct, tm, nk⟩ : Aut) t ⟨0, 0, []⟩) x dv)) := by
    show RV _ _ _ _;rw [<- hx, hdv];exact hv
   have HP : Hid (w4.heap[w.heap.size + 2]? = some (.cells #[.int .i64 0, .int .i64 0, .int .i64 0, .slice none 0 0, .int .i64 0, .int .i64 0, .int .i64 0] 28)) := by
    obtain ⟨m4, h4⟩ := hv;exact hb_ HG4.out h4.hold.old
   clear hv M hx hdv;go_upto_region 4 with fail
   obtain ⟨m2, hm2⟩ := HV.out;have HR := hd_ hm2;have HC : Hid (Gr w4 w4.drew) := Gr.drew _;clear hm2;refine wr0 12 Gr (Kp [g]) (by kernel_rfl) ?_;generalize w4.drew = wc at HC ⊢;refine wh1 preGr (preKp _) 0 (some 23) ?_;refine wh1 preGr (preKp _) 1 (some 24) ?_;refine wh1 preGr (preKp _) 2 (some 25) ?_;refine wh1 preGr (preKp _) 3 (some 26) ?_ (hy := fun w' hw' => by
    have hrg := (HR.out.gr (Gr.trans HC.out hw')).autos;refine Eq.trans (lm_ (P := Tryz.prog) 28 (.tmp 25) ?_ g 5 ?_ _ _ hrg Tryz.underlying28 rfl sa_) ?_
    · rfl
    · simp [go_sem]
    · with_reducible rfl)
   refine wh0 preGr (preKp _) 4 (some 27) ?_;refine wh0 preGr (preKp _) 5 (some 28) ?_;refine wh0 preGr (preKp _) 6 (some 29) ?_;refine wh0 preGr (preKp _) 7 (some 30) ?_ (hy := fun w' hw' => by
    have hq2 := cells21 ((hw'.2 g (by simp)).trans (HR.out.gr HC.out).row);obtain ⟨k0, k1, k2, k3, k4, k5, k6, k7, k8, k9, k10, k11, k12, k13, k14, k15, k16, k17, k18, k19, k20⟩ := hq2;clear k0 k1 k2 k3 k4 k5 k6 k7 k8 k9 k10 k11 k12 k13 k14 k15 k16 k17 k18;go_simp;with_reducible rfl)
   refine wh0 preGr (preKp _) 8 (some 31) ?_;refine wh0 preGr (preKp _) 9 (some 32) ?_;refine wh0 preGr (preKp _) 10 (some 33) ?_;refine wh0 preGr (preKp _) 11 (some 34) ?_ (hy := fun w' hw' => by
    have hq2 := cells21 ((hw'.2 g (by simp)).trans (HR.out.gr HC.out).row);obtain ⟨k0, k1, k2, k3, k4, k5, k6, k7, k8, k9, k10, k11, k12, k13, k14, k15, k16, k17, k18, k19, k20⟩ := hq2;clear k0 k1 k2 k3 k4 k5 k6 k7 k8 k9 k10 k11 k12 k13 k14 k15 k16 k17 k18;go_simp;with_reducible rfl)
   refine wh_ (i := 12) (by decide) rfl (by kernel_rfl) (by rfl) ?_;refine ws_ (none) 28 (.tmp 6) (.tmp 26) rfl (w.heap.size + 2) (autoC x.1 m2.av) rfl rfl 28 _ (hg_ HC.out HP.out) sa_ rfl (ac_ (oo0 HR.out.hold.ask.own)) rfl ?_;intro w5 h5 ho5;have H5 := hd_ h5;have HO5 := hd_ ho5;refine ⟨⟨ho5.size, fun b hb => ?_⟩, ?_⟩
   · simp only [List.mem_cons, List.not_mem_nil, or_false] at hb;subst hb;exact ho5.heap _ (HR.out.gr HC.out).lt (no_ (HR.out.gr HC.out).row (hg_ HC.out HP.out) (by decide))
   clear h5 ho5;try simp only [Act.put, aq1, aq2, aq3]
   refine wh_ (i := 13) (by decide) rfl (by kernel_rfl) (by rfl) ?_;go_simp;refine ⟨(pr_ (preKp _) _), ?_⟩;try simp only [Act.put, aq1, aq2, aq3]
   refine wh_ (i := 14) (by decide) rfl (by kernel_rfl) (by rfl) ?_;go_simp;refine ⟨(pr_ (preKp _) _), ?_⟩;try simp only [Act.put, aq1, aq2, aq3]
   refine wh2 (by kernel_rfl) ?_ _;go_wp2
   refine bodyPost_ret (v := .tuple #[autoV x.1 m2.av, m2.ov, dv]) (rc1 (P := Tryz.prog) (fn := Tryz.f19) rfl _ _ (w.heap.size + 2) 28 _ (0, 0) _ rfl H5.out Tryz.underlying28 rfl sa_) rfl ?_;refine ⟨m2.av, m2.ov, dv, rfl, ?_⟩;exact DRes.of (HR.out.gr HC.out) (hg_ HC.out HP.out) HO5.out HLOW.out.1 HLOW.out.2 HSTART.out
set_option maxRecDepth 20000 in
set_option maxHeartbeats 4000000 in
theorem New_any (ao : Option Addr) (n c : Nat) (ts : List Tg) (w : World) (hr : TR w (.slice ao n c) n ts) (hn : n <= 1000) (hm : ∀ x ∈ ts, x.l.length <= 1000000) :
 Calls Tryz.prog 21 #[.slice ao n c] w fun e w' => ∃ av us, e = .returned (.tuple #[autoV (new (plain ts)).1 av, .int .i64 (new (plain ts)).2]) /\ TO w' w.heap.size av us /\ plain us = (new (plain ts)).1.ask /\ Below w.heap.size w w' := by
 have BA : Gr w (w.alloc (.cells #[.int .i64 0, .int .i64 0, .int .i64 0, .slice none 0 0, .int .i64 0, .int .i64 0, .int .i64 0] 28)) := (Gr.refl w).alloc _;have HBA := hd_ BA;have HG : Hid ((w.alloc (.cells #[.int .i64 0, .int .i64 0, .int .i64 0, .slice none 0 0, .int .i64 0, .int .i64 0, .int .i64 0] 28)).heap[w.heap.size]? = some (.cells #[.int .i64 0, .int .i64 0, .int .i64 0, .slice none 0 0, .int .i64 0, .int .i64 0, .int .i64 0] 28)) := heap_alloc_last _ _;have EN := hd_ (encode_any ao n c ts _ (hr.below BA) hn hm);have CP : Hid (∀ w', Gr w w' -> Calls Tryz.prog 47 #[.slice ao n c] w' fun e w'' => ∃ v us, e = .returned v /\ plain us = plain ts /\ TO w'' w'.heap.size v us /\ Below w'.heap.size w' w'') := fun w' hw' => copies_any ao n c ts w' (hr.below hw') hn hm
 obtain ⟨x, hx⟩ : ∃ x, x = new (plain ts) := ⟨_, rfl⟩;rw [<- hx];have HX := hd_ hx;unfold EncR at EN;clear BA hr hn hm hx
 by_cases hz : encE (plain ts) = 0
 · rw [hz] at EN;have HXE : Hid (x = (⟨0, 0, 0, plain ts, 0, 0, 0⟩, 0)) := HX.out.trans (if_pos hz);clear hz;go_enter Tryz.func21, Tryz.ntmps21
   go_wp2_with fail
   refine EN.out.mono ?_;rintro e w1 ⟨v1, rfl, _, hb1⟩;have HB1 : Hid (Gr w w1) := HBA.out.trans hb1;have HG1 := hd_ (hb_ HG.out hb1);clear hb1 EN;go_wp2_with fail
   refine (CP.out w1 HB1.out).mono ?_;rintro e w2 ⟨v2, us, rfl, hpl, hto, hb2⟩;have HB2 : Hid (Gr w w2) := Gr.trans HB1.out hb2;have HG2 := hd_ (hb_ HG1.out hb2);have HTO := hd_ (hto.mono HB1.out.size);have HPL := hd_ hpl;obtain ⟨a2, c2, ev, _, _⟩ := hto.tr.shape;subst ev;clear hb2 hto hpl CP;go_wp2_with (refine wl_ rfl 28 (.tmp 2) (.tmp 16) rfl w.heap.size [.int .i64 0, .int .i64 0, .int .i64 0, .slice a2 us.length c2, .int .i64 0, .int .i64 0, .int .i64 0] rfl rfl 28 _ HG2.out sa_ rfl (ac_ (a := ⟨0, 0, 0, [], 0, 0, 0⟩) rfl) ?_)
   intro w3 g3 ho3;have H3 := hd_ g3;have HO3 := hd_ ho3;clear g3 ho3;go_wp2_with fail
   refine bodyPost_ret (v := .tuple #[autoV ⟨0, 0, 0, plain ts, 0, 0, 0⟩ (.slice a2 us.length c2), .int .i64 0]) (rc_ (P := Tryz.prog) (fn := Tryz.f21) rfl _ _ w.heap.size 28 _ (0, 0) _ rfl H3.out Tryz.underlying28 rfl sa_) rfl ?_;refine ⟨.slice a2 us.length c2, us, by rw [HXE.out], TO.off HTO.out HG2.out (by decide) (by decide) HO3.out, by rw [HXE.out]; exact HPL.out, ?_⟩;exact HO3.out.below _ _ (Nat.le_refl _) HB2.out
 · have HXE : Hid (x = (⟨0, 0, 0, [], 0, 0, 0⟩, 160)) := HX.out.trans (if_neg hz);obtain ⟨F, hF⟩ : ∃ F, F = encE (plain ts) := ⟨_, rfl⟩;rw [<- hF] at EN hz;have hz2 : (F != 0) = true := by simpa using hz
   clear hF;go_enter Tryz.func21, Tryz.ntmps21
   go_wp2_with fail
   refine EN.out.mono ?_;rintro e w1 ⟨v1, rfl, _, hb1⟩;have HB1 : Hid (Gr w w1) := HBA.out.trans hb1;have HG1 := hd_ (hb_ HG.out hb1);clear hb1 EN;go_wp2_with (refine wl_ rfl 28 (.tmp 2) (.tmp 13) rfl w.heap.size [.int .i64 0, .int .i64 0, .int .i64 0, .slice none 0 0, .int .i64 0, .int .i64 0, .int .i64 0] rfl rfl 28 _ HG1.out sa_ rfl (ac_ (a := ⟨0, 0, 0, [], 0, 0, 0⟩) rfl) ?_)
   intro w3 g3 ho3;have H3 := hd_ g3;have HO3 := hd_ ho3;clear g3 ho3;go_wp2_with fail
   refine bodyPost_ret (v := .tuple #[autoV ⟨0, 0, 0, [], 0, 0, 0⟩ (.slice none 0 0), .int .i64 160]) (rc_ (P := Tryz.prog) (fn := Tryz.f21) rfl _ _ w.heap.size 28 _ (0, 0) _ rfl H3.out Tryz.underlying28 rfl sa_) rfl ?_;refine ⟨.slice none 0 0, [], by rw [HXE.out], TO.nil _ _, by rw [HXE.out]; rfl, ?_⟩;exact HO3.out.below _ _ (Nat.le_refl _) HB1.out
end Go.Proofs.YtclplbapedmihaaGreat.Au
namespace Go.Proofs.YtclplbapedmihaaGreat.Au
set_option maxRecDepth 4000
open Go.RowKit O Ng
open Go.Proofs.YtclplbapedmihaaGreat.Fs (rTimed_any)
set_option linter.unusedVariables false
set_option linter.unusedSimpArgs false
set_option maxRecDepth 20000 in
set_option maxHeartbeats 8000000 in
theorem rconf_any (ra : Option Addr) (rn rc : Nat) (rs : List Ru) (k1 k2 k3 k4 : Int) (w : World) (hr : RR w (.slice ra rn rc) rn rs) :
 Calls Tryz.prog 22 #[.agg #[.slice ra rn rc, .int .i64 k1, .int .i64 k2, .int .i64 k3, .int .i64 k4]] w fun e w' => e = .returned (.bool (decide (isC (⟨rs, k1, k2, k3, k4⟩ : Cfg)))) /\ Below w.heap.size w w' := by
 have BA : Gr w (w.alloc (.cells #[.slice ra rn rc, .int .i64 k1, .int .i64 k2, .int .i64 k3, .int .i64 k4] 24)) := (Gr.refl w).alloc _;have HBA := hd_ BA;have HG : Hid ((w.alloc (.cells #[.slice ra rn rc, .int .i64 k1, .int .i64 k2, .int .i64 k3, .int .i64 k4] 24)).heap[w.heap.size]? = some (.cells #[.slice ra rn rc, .int .i64 k1, .int .i64 k2, .int .i64 k3, .int .i64 k4] 24)) := heap_alloc_last _ _;obtain ⟨j0, j1, j2, j3, j4⟩ := cells5 HG.out;have AR := hd_ (are_any ra rn rc rs _ (hr.below BA));obtain ⟨R, hR⟩ : ∃ R, R = decide (isC (⟨rs, k1, k2, k3, k4⟩ : Cfg)) := ⟨_, rfl⟩;rw [<- hR];clear BA hr
 by_cases ha : areR rs
 · rw [decide_eq_true ha] at AR
   by_cases a0 : 1 <= k1
   · by_cases b0 : k1 <= 1000
     · have hh0 := b0
       by_cases a1 : 1 <= k2
       · by_cases b1 : k2 <= 1000
         · have hh1 := b1
           by_cases a2 : 0 <= k3
           · by_cases b2 : k3 <= 1000
             · have hh2 := b2
               by_cases a3 : 1 <= k4
               · by_cases b3 : k4 <= 1048576
                 · have hh3 := b3;have HD : Hid (R = true) := hR.trans (decide_eq_true ⟨ha, ⟨a0, b0⟩, ⟨a1, b1⟩, ⟨a2, b2⟩, ⟨a3, b3⟩⟩);clear ha hR;go_enter Tryz.func22, Tryz.ntmps22
                   go_wp2_with fail
                   refine AR.out.mono ?_;rintro e w1 ⟨rfl, hb1⟩;have HB1 : Hid (Gr w w1) := HBA.out.trans hb1;obtain ⟨i0, i1, i2, i3, i4⟩ := cells5 (hb_ HG.out hb1);clear hb1 AR HG HBA j0 j1 j2 j3 j4;go_wp2_with fail
                   go_ret
                   exact ⟨rb_ HD.out, HB1.out⟩
                 · have HD : Hid (R = false) := hR.trans (decide_eq_false fun h => b3 h.2.2.2.2.2);have hdq := decide_eq_false b3;clear ha hR;go_enter Tryz.func22, Tryz.ntmps22
                   go_wp2_with fail
                   refine AR.out.mono ?_;rintro e w1 ⟨rfl, hb1⟩;have HB1 : Hid (Gr w w1) := HBA.out.trans hb1;obtain ⟨i0, i1, i2, i3, i4⟩ := cells5 (hb_ HG.out hb1);clear hb1 AR HG HBA j0 j1 j2 j3 j4;go_wp2_with fail
                   go_ret
                   exact ⟨rb_ HD.out, HB1.out⟩
               · have HD : Hid (R = false) := hR.trans (decide_eq_false fun h => a3 h.2.2.2.2.1);clear ha hR;go_enter Tryz.func22, Tryz.ntmps22
                 go_wp2_with fail
                 refine AR.out.mono ?_;rintro e w1 ⟨rfl, hb1⟩;have HB1 : Hid (Gr w w1) := HBA.out.trans hb1;obtain ⟨i0, i1, i2, i3, i4⟩ := cells5 (hb_ HG.out hb1);clear hb1 AR HG HBA j0 j1 j2 j3 j4;go_wp2_with fail
                 go_ret
                 exact ⟨rb_ HD.out, HB1.out⟩
             · have HD : Hid (R = false) := hR.trans (decide_eq_false fun h => b2 h.2.2.2.1.2);have hdq := decide_eq_false b2;clear ha hR;go_enter Tryz.func22, Tryz.ntmps22
               go_wp2_with fail
               refine AR.out.mono ?_;rintro e w1 ⟨rfl, hb1⟩;have HB1 : Hid (Gr w w1) := HBA.out.trans hb1;obtain ⟨i0, i1, i2, i3, i4⟩ := cells5 (hb_ HG.out hb1);clear hb1 AR HG HBA j0 j1 j2 j3 j4;go_wp2_with fail
               go_ret
               exact ⟨rb_ HD.out, HB1.out⟩
           · have HD : Hid (R = false) := hR.trans (decide_eq_false fun h => a2 h.2.2.2.1.1);clear ha hR;go_enter Tryz.func22, Tryz.ntmps22
             go_wp2_with fail
             refine AR.out.mono ?_;rintro e w1 ⟨rfl, hb1⟩;have HB1 : Hid (Gr w w1) := HBA.out.trans hb1;obtain ⟨i0, i1, i2, i3, i4⟩ := cells5 (hb_ HG.out hb1);clear hb1 AR HG HBA j0 j1 j2 j3 j4;go_wp2_with fail
             go_ret
             exact ⟨rb_ HD.out, HB1.out⟩
         · have HD : Hid (R = false) := hR.trans (decide_eq_false fun h => b1 h.2.2.1.2);have hdq := decide_eq_false b1;clear ha hR;go_enter Tryz.func22, Tryz.ntmps22
           go_wp2_with fail
           refine AR.out.mono ?_;rintro e w1 ⟨rfl, hb1⟩;have HB1 : Hid (Gr w w1) := HBA.out.trans hb1;obtain ⟨i0, i1, i2, i3, i4⟩ := cells5 (hb_ HG.out hb1);clear hb1 AR HG HBA j0 j1 j2 j3 j4;go_wp2_with fail
           go_ret
           exact ⟨rb_ HD.out, HB1.out⟩
       · have HD : Hid (R = false) := hR.trans (decide_eq_false fun h => a1 h.2.2.1.1);clear ha hR;go_enter Tryz.func22, Tryz.ntmps22
         go_wp2_with fail
         refine AR.out.mono ?_;rintro e w1 ⟨rfl, hb1⟩;have HB1 : Hid (Gr w w1) := HBA.out.trans hb1;obtain ⟨i0, i1, i2, i3, i4⟩ := cells5 (hb_ HG.out hb1);clear hb1 AR HG HBA j0 j1 j2 j3 j4;go_wp2_with fail
         go_ret
         exact ⟨rb_ HD.out, HB1.out⟩
     · have HD : Hid (R = false) := hR.trans (decide_eq_false fun h => b0 h.2.1.2);have hdq := decide_eq_false b0;clear ha hR;go_enter Tryz.func22, Tryz.ntmps22
       go_wp2_with fail
       refine AR.out.mono ?_;rintro e w1 ⟨rfl, hb1⟩;have HB1 : Hid (Gr w w1) := HBA.out.trans hb1;obtain ⟨i0, i1, i2, i3, i4⟩ := cells5 (hb_ HG.out hb1);clear hb1 AR HG HBA j0 j1 j2 j3 j4;go_wp2_with fail
       go_ret
       exact ⟨rb_ HD.out, HB1.out⟩
   · have HD : Hid (R = false) := hR.trans (decide_eq_false fun h => a0 h.2.1.1);clear ha hR;go_enter Tryz.func22, Tryz.ntmps22
     go_wp2_with fail
     refine AR.out.mono ?_;rintro e w1 ⟨rfl, hb1⟩;have HB1 : Hid (Gr w w1) := HBA.out.trans hb1;obtain ⟨i0, i1, i2, i3, i4⟩ := cells5 (hb_ HG.out hb1);clear hb1 AR HG HBA j0 j1 j2 j3 j4;go_wp2_with fail
     go_ret
     exact ⟨rb_ HD.out, HB1.out⟩
 · rw [decide_eq_false ha] at AR;have HD : Hid (R = false) := hR.trans (decide_eq_false fun h => ha h.1);clear ha hR;go_enter Tryz.func22, Tryz.ntmps22
   go_wp2_with fail
   refine AR.out.mono ?_;rintro e w1 ⟨rfl, hb1⟩;have HB1 : Hid (Gr w w1) := HBA.out.trans hb1;obtain ⟨i0, i1, i2, i3, i4⟩ := cells5 (hb_ HG.out hb1);clear hb1 AR HG HBA j0 j1 j2 j3 j4;go_wp2_with fail
   go_ret
   exact ⟨rb_ HD.out, HB1.out⟩
set_option maxRecDepth 20000 in
set_option maxHeartbeats 8000000 in
theorem ris_any (s i r : Int) (ao : Option Addr) (n c : Nat) (ts : List Tg) (ct tm nk : Int) (w : World) (hr : TR w (.slice ao n c) n ts) (hn : n <= 1000) (hm : ∀ x ∈ ts, x.l.length <= 1000000) :
 Calls Tryz.prog 24 #[.agg #[.int .i64 s, .int .i64 i, .int .i64 r, .slice ao n c, .int .i64 ct, .int .i64 tm, .int .i64 nk]] w fun e w' => e = .returned (.bool (decide (isA (⟨s, i, r, plain ts, ct, tm, nk⟩ : Aut)))) /\ Below w.heap.size w w' := by
 have BA : Gr w (w.alloc (.cells #[.int .i64 s, .int .i64 i, .int .i64 r, .slice ao n c, .int .i64 ct, .int .i64 tm, .int .i64 nk] 28)) := (Gr.refl w).alloc _;have HBA := hd_ BA;have HG : Hid ((w.alloc (.cells #[.int .i64 s, .int .i64 i, .int .i64 r, .slice ao n c, .int .i64 ct, .int .i64 tm, .int .i64 nk] 28)).heap[w.heap.size]? = some (.cells #[.int .i64 s, .int .i64 i, .int .i64 r, .slice ao n c, .int .i64 ct, .int .i64 tm, .int .i64 nk] 28)) := heap_alloc_last _ _;obtain ⟨j0, j1, j2, j3, j4, j5, j6⟩ := cells7 HG.out;have EN := hd_ (ra_ ao n c ts _ (hr.below BA) hn hm);unfold EncR at EN;have TM := hd_ (fun w => rTimed_any s w);obtain ⟨F, hF⟩ : ∃ F, F = encE (plain ts) := ⟨_, rfl⟩;rw [<- hF] at EN;obtain ⟨R, hR⟩ : ∃ R, R = decide (isA (⟨s, i, r, plain ts, ct, tm, nk⟩ : Aut)) := ⟨_, rfl⟩;rw [<- hR];clear BA hr hn hm
 by_cases a0 : 0 <= s
 · by_cases b0 : s <= 9
   · have hh0 := b0
     by_cases a1 : 0 <= i
     · by_cases b1 : i <= 255
       · have hh1 := b1
         by_cases a2 : 0 <= r
         · by_cases b2 : r <= 255
           · have hh2 := b2
             by_cases a3 : 0 <= ct
             · by_cases b3 : ct <= 1000
               · have hh3 := b3
                 by_cases a4 : 0 <= nk
                 · by_cases b4 : nk <= 1000
                   · have hh4 := b4
                     by_cases hz : F = 0
                     · rw [hz] at EN;have hz3 : encE (plain ts) = 0 := hF ▸ hz;have HALL : Hid (∀ h : tmOk s tm, isA (⟨s, i, r, plain ts, ct, tm, nk⟩ : Aut)) := fun h => ⟨⟨a0, b0⟩, ⟨a1, b1⟩, ⟨a2, b2⟩, hz3, ⟨a3, b3⟩, ⟨a4, b4⟩, h⟩
                       clear hz hz3 hF;cases ht : Fs.timed s with
                       | true =>
                        rw [ht] at TM
                        by_cases d1 : 1 <= tm
                        · by_cases d2 : tm <= 1099512676352
                          · have hdd := d2;have HD : Hid (R = true) := hR.trans (decide_eq_true (HALL.out ⟨fun _ => ⟨d1, d2⟩, fun h => by rw [ht] at h; cases h⟩));clear hR ht HALL;go_enter Tryz.func24, Tryz.ntmps24
                            go_wp2_with fail
                            refine EN.out.mono ?_;rintro e w1 ⟨v1, rfl, _, hb1⟩;have HB1 : Hid (Gr w w1) := HBA.out.trans hb1;obtain ⟨i0, i1, i2, i3, i4, i5, i6⟩ := cells7 (hb_ HG.out hb1);clear hb1 EN HG HBA j0 j1 j2 j3 j4 j5 j6;go_wp2_with fail
                            refine (TM.out w1).mono ?_;rintro e w2 ⟨rfl, rfl⟩;go_wp2_with fail
                            go_ret
                            exact ⟨rb_ HD.out, HB1.out⟩
                          · have hdd := decide_eq_false d2;have HD : Hid (R = false) := hR.trans (decide_eq_false fun h => d2 (h.2.2.2.2.2.2.1 ht).2);clear hR ht HALL;go_enter Tryz.func24, Tryz.ntmps24
                            go_wp2_with fail
                            refine EN.out.mono ?_;rintro e w1 ⟨v1, rfl, _, hb1⟩;have HB1 : Hid (Gr w w1) := HBA.out.trans hb1;obtain ⟨i0, i1, i2, i3, i4, i5, i6⟩ := cells7 (hb_ HG.out hb1);clear hb1 EN HG HBA j0 j1 j2 j3 j4 j5 j6;go_wp2_with fail
                            refine (TM.out w1).mono ?_;rintro e w2 ⟨rfl, rfl⟩;go_wp2_with fail
                            go_ret
                            exact ⟨rb_ HD.out, HB1.out⟩
                        · have hdd := d1;have HD : Hid (R = false) := hR.trans (decide_eq_false fun h => d1 (h.2.2.2.2.2.2.1 ht).1);clear hR ht HALL;go_enter Tryz.func24, Tryz.ntmps24
                          go_wp2_with fail
                          refine EN.out.mono ?_;rintro e w1 ⟨v1, rfl, _, hb1⟩;have HB1 : Hid (Gr w w1) := HBA.out.trans hb1;obtain ⟨i0, i1, i2, i3, i4, i5, i6⟩ := cells7 (hb_ HG.out hb1);clear hb1 EN HG HBA j0 j1 j2 j3 j4 j5 j6;go_wp2_with fail
                          refine (TM.out w1).mono ?_;rintro e w2 ⟨rfl, rfl⟩;go_wp2_with fail
                          go_ret
                          exact ⟨rb_ HD.out, HB1.out⟩
                       | false =>
                        rw [ht] at TM
                        by_cases d1 : tm = 0
                        · have hd1 : (tm == 0) = true := by simp [d1]
                          have HD : Hid (R = true) := hR.trans (decide_eq_true (HALL.out ⟨fun h => (by rw [ht] at h; cases h), fun _ => d1⟩));clear d1;clear hR ht HALL;go_enter Tryz.func24, Tryz.ntmps24
                          go_wp2_with fail
                          refine EN.out.mono ?_;rintro e w1 ⟨v1, rfl, _, hb1⟩;have HB1 : Hid (Gr w w1) := HBA.out.trans hb1;obtain ⟨i0, i1, i2, i3, i4, i5, i6⟩ := cells7 (hb_ HG.out hb1);clear hb1 EN HG HBA j0 j1 j2 j3 j4 j5 j6;go_wp2_with fail
                          refine (TM.out w1).mono ?_;rintro e w2 ⟨rfl, rfl⟩;go_wp2_with fail
                          go_ret
                          exact ⟨rb_ HD.out, HB1.out⟩
                        · have hd1 : (tm == 0) = false := by simpa using d1
                          have HD : Hid (R = false) := hR.trans (decide_eq_false fun h => d1 (h.2.2.2.2.2.2.2 ht));clear d1;clear hR ht HALL;go_enter Tryz.func24, Tryz.ntmps24
                          go_wp2_with fail
                          refine EN.out.mono ?_;rintro e w1 ⟨v1, rfl, _, hb1⟩;have HB1 : Hid (Gr w w1) := HBA.out.trans hb1;obtain ⟨i0, i1, i2, i3, i4, i5, i6⟩ := cells7 (hb_ HG.out hb1);clear hb1 EN HG HBA j0 j1 j2 j3 j4 j5 j6;go_wp2_with fail
                          refine (TM.out w1).mono ?_;rintro e w2 ⟨rfl, rfl⟩;go_wp2_with fail
                          go_ret
                          exact ⟨rb_ HD.out, HB1.out⟩
                     · have HD : Hid (R = false) := hR.trans (decide_eq_false fun h => hz (hF.trans h.2.2.2.1));have hz2 : (F != 0) = true := by simpa using hz
                       clear hz hF hR;go_enter Tryz.func24, Tryz.ntmps24
                       go_wp2_with fail
                       refine EN.out.mono ?_;rintro e w1 ⟨v1, rfl, _, hb1⟩;have HB1 : Hid (Gr w w1) := HBA.out.trans hb1;obtain ⟨i0, i1, i2, i3, i4, i5, i6⟩ := cells7 (hb_ HG.out hb1);clear hb1 EN HG HBA j0 j1 j2 j3 j4 j5 j6;go_wp2_with fail
                       go_ret
                       exact ⟨rb_ HD.out, HB1.out⟩
                   · have HD : Hid (R = false) := hR.trans (decide_eq_false fun h => b4 h.2.2.2.2.2.1.2);clear hR;go_enter Tryz.func24, Tryz.ntmps24
                     go_wp2_with fail
                     go_ret
                     exact ⟨rb_ HD.out, HBA.out⟩
                 · have HD : Hid (R = false) := hR.trans (decide_eq_false fun h => a4 h.2.2.2.2.2.1.1);clear hR;go_enter Tryz.func24, Tryz.ntmps24
                   go_wp2_with fail
                   go_ret
                   exact ⟨rb_ HD.out, HBA.out⟩
               · have HD : Hid (R = false) := hR.trans (decide_eq_false fun h => b3 h.2.2.2.2.1.2);clear hR;go_enter Tryz.func24, Tryz.ntmps24
                 go_wp2_with fail
                 go_ret
                 exact ⟨rb_ HD.out, HBA.out⟩
             · have HD : Hid (R = false) := hR.trans (decide_eq_false fun h => a3 h.2.2.2.2.1.1);clear hR;go_enter Tryz.func24, Tryz.ntmps24
               go_wp2_with fail
               go_ret
               exact ⟨rb_ HD.out, HBA.out⟩
           · have HD : Hid (R = false) := hR.trans (decide_eq_false fun h => b2 h.2.2.1.2);clear hR;go_enter Tryz.func24, Tryz.ntmps24
             go_wp2_with fail
             go_ret
             exact ⟨rb_ HD.out, HBA.out⟩
         · have HD : Hid (R = false) := hR.trans (decide_eq_false fun h => a2 h.2.2.1.1);clear hR;go_enter Tryz.func24, Tryz.ntmps24
           go_wp2_with fail
           go_ret
           exact ⟨rb_ HD.out, HBA.out⟩
       · have HD : Hid (R = false) := hR.trans (decide_eq_false fun h => b1 h.2.1.2);clear hR;go_enter Tryz.func24, Tryz.ntmps24
         go_wp2_with fail
         go_ret
         exact ⟨rb_ HD.out, HBA.out⟩
     · have HD : Hid (R = false) := hR.trans (decide_eq_false fun h => a1 h.2.1.1);clear hR;go_enter Tryz.func24, Tryz.ntmps24
       go_wp2_with fail
       go_ret
       exact ⟨rb_ HD.out, HBA.out⟩
   · have HD : Hid (R = false) := hR.trans (decide_eq_false fun h => b0 h.1.2);clear hR;go_enter Tryz.func24, Tryz.ntmps24
     go_wp2_with fail
     go_ret
     exact ⟨rb_ HD.out, HBA.out⟩
 · have HD : Hid (R = false) := hR.trans (decide_eq_false fun h => a0 h.1.1);clear hR;go_enter Tryz.func24, Tryz.ntmps24
   go_wp2_with fail
   go_ret
   exact ⟨rb_ HD.out, HBA.out⟩
set_option maxRecDepth 20000 in
set_option maxHeartbeats 8000000 in
theorem rfine_any (ra : Option Addr) (rn rc : Nat) (rs : List Ru) (k1 k2 k3 k4 : Int) (s i r : Int) (ao : Option Addr) (n c : Nat) (ts : List Tg) (ct tm nk : Int) (t : Int) (w : World) (hrr : RR w (.slice ra rn rc) rn rs) (hr : TR w (.slice ao n c) n ts) (hn : n <= 1000) (hm : ∀ x ∈ ts, x.l.length <= 1000000) :
 Calls Tryz.prog 32 #[.agg #[.slice ra rn rc, .int .i64 k1, .int .i64 k2, .int .i64 k3, .int .i64 k4], .agg #[.int .i64 s, .int .i64 i, .int .i64 r, .slice ao n c, .int .i64 ct, .int .i64 tm, .int .i64 nk], .int .i64 t] w fun e w' => e = .returned (.bool (decide (fine (⟨rs, k1, k2, k3, k4⟩ : Cfg) (⟨s, i, r, plain ts, ct, tm, nk⟩ : Aut) t))) /\ Below w.heap.size w w' := by
 have BA : Gr w ((w.alloc (.cells #[.slice ra rn rc, .int .i64 k1, .int .i64 k2, .int .i64 k3, .int .i64 k4] 24)).alloc (.cells #[.int .i64 s, .int .i64 i, .int .i64 r, .slice ao n c, .int .i64 ct, .int .i64 tm, .int .i64 nk] 28)) := ((Gr.refl w).alloc _).alloc _;have HBA := hd_ BA;have HG0 : Hid (((w.alloc (.cells #[.slice ra rn rc, .int .i64 k1, .int .i64 k2, .int .i64 k3, .int .i64 k4] 24)).alloc (.cells #[.int .i64 s, .int .i64 i, .int .i64 r, .slice ao n c, .int .i64 ct, .int .i64 tm, .int .i64 nk] 28)).heap[w.heap.size]? = some (.cells #[.slice ra rn rc, .int .i64 k1, .int .i64 k2, .int .i64 k3, .int .i64 k4] 24)) := h0_ _ _ _;have HG1 : Hid (((w.alloc (.cells #[.slice ra rn rc, .int .i64 k1, .int .i64 k2, .int .i64 k3, .int .i64 k4] 24)).alloc (.cells #[.int .i64 s, .int .i64 i, .int .i64 r, .slice ao n c, .int .i64 ct, .int .i64 tm, .int .i64 nk] 28)).heap[w.heap.size + 1]? = some (.cells #[.int .i64 s, .int .i64 i, .int .i64 r, .slice ao n c, .int .i64 ct, .int .i64 tm, .int .i64 nk] 28)) := h1_ _ _ _;obtain ⟨j0, j1, j2, j3, j4⟩ := cells5 HG0.out;have CF := hd_ (rconf_any ra rn rc rs k1 k2 k3 k4 _ (hrr.below BA));have HR := hd_ hr;have IS : Hid (∀ w', Gr w w' -> Calls Tryz.prog 24 #[.agg #[.int .i64 s, .int .i64 i, .int .i64 r, .slice ao n c, .int .i64 ct, .int .i64 tm, .int .i64 nk]] w' fun e w'' => e = .returned (.bool (decide (isA (⟨s, i, r, plain ts, ct, tm, nk⟩ : Aut)))) /\ Below w'.heap.size w' w'') := fun w' hw' => ris_any s i r ao n c ts ct tm nk w' (HR.out.below hw') hn hm
 obtain ⟨R, hR⟩ : ∃ R, R = decide (fine (⟨rs, k1, k2, k3, k4⟩ : Cfg) (⟨s, i, r, plain ts, ct, tm, nk⟩ : Aut) t) := ⟨_, rfl⟩;rw [<- hR];clear BA hr hn hm hrr
 by_cases hc : isC (⟨rs, k1, k2, k3, k4⟩ : Cfg)
 · rw [decide_eq_true hc] at CF
   by_cases ha : isA (⟨s, i, r, plain ts, ct, tm, nk⟩ : Aut)
   · rw [decide_eq_true ha] at IS
     by_cases t1 : 0 <= t
     · by_cases t2 : t <= 1099511627776
       · have hh2 := t2;have HD : Hid (R = true) := hR.trans (decide_eq_true ⟨hc, ha, t1, t2⟩);clear hc ha;clear hR;go_enter Tryz.func32, Tryz.ntmps32
         go_wp2_with fail
         refine CF.out.mono ?_;rintro e w1 ⟨rfl, hb1⟩;have HB1 : Hid (Gr w w1) := HBA.out.trans hb1;obtain ⟨i0, i1, i2, i3, i4, i5, i6⟩ := cells7 (hb_ HG1.out hb1);clear hb1 CF HG0 HG1 HBA j0 j1 j2 j3 j4;go_wp2_with fail
         refine (IS.out w1 HB1.out).mono ?_;rintro e w2 ⟨rfl, hb2⟩;have HB2 := hd_ (Gr.trans HB1.out hb2);clear hb2;go_wp2_with fail
         go_ret
         exact ⟨rb_ HD.out, HB2.out⟩
       · have HD : Hid (R = false) := hR.trans (decide_eq_false fun h => t2 h.2.2.2);have hdq := decide_eq_false t2;clear hc ha;clear hR;go_enter Tryz.func32, Tryz.ntmps32
         go_wp2_with fail
         refine CF.out.mono ?_;rintro e w1 ⟨rfl, hb1⟩;have HB1 : Hid (Gr w w1) := HBA.out.trans hb1;obtain ⟨i0, i1, i2, i3, i4, i5, i6⟩ := cells7 (hb_ HG1.out hb1);clear hb1 CF HG0 HG1 HBA j0 j1 j2 j3 j4;go_wp2_with fail
         refine (IS.out w1 HB1.out).mono ?_;rintro e w2 ⟨rfl, hb2⟩;have HB2 := hd_ (Gr.trans HB1.out hb2);clear hb2;go_wp2_with fail
         go_ret
         exact ⟨rb_ HD.out, HB2.out⟩
     · have HD : Hid (R = false) := hR.trans (decide_eq_false fun h => t1 h.2.2.1);clear hc ha;clear hR;go_enter Tryz.func32, Tryz.ntmps32
       go_wp2_with fail
       refine CF.out.mono ?_;rintro e w1 ⟨rfl, hb1⟩;have HB1 : Hid (Gr w w1) := HBA.out.trans hb1;obtain ⟨i0, i1, i2, i3, i4, i5, i6⟩ := cells7 (hb_ HG1.out hb1);clear hb1 CF HG0 HG1 HBA j0 j1 j2 j3 j4;go_wp2_with fail
       refine (IS.out w1 HB1.out).mono ?_;rintro e w2 ⟨rfl, hb2⟩;have HB2 := hd_ (Gr.trans HB1.out hb2);clear hb2;go_wp2_with fail
       go_ret
       exact ⟨rb_ HD.out, HB2.out⟩
   · rw [decide_eq_false ha] at IS;have HD : Hid (R = false) := hR.trans (decide_eq_false fun h => ha h.2.1);clear hc ha;clear hR;go_enter Tryz.func32, Tryz.ntmps32
     go_wp2_with fail
     refine CF.out.mono ?_;rintro e w1 ⟨rfl, hb1⟩;have HB1 : Hid (Gr w w1) := HBA.out.trans hb1;obtain ⟨i0, i1, i2, i3, i4, i5, i6⟩ := cells7 (hb_ HG1.out hb1);clear hb1 CF HG0 HG1 HBA j0 j1 j2 j3 j4;go_wp2_with fail
     refine (IS.out w1 HB1.out).mono ?_;rintro e w2 ⟨rfl, hb2⟩;have HB2 := hd_ (Gr.trans HB1.out hb2);clear hb2;go_wp2_with fail
     go_ret
     exact ⟨rb_ HD.out, HB2.out⟩
 · rw [decide_eq_false hc] at CF;have HD : Hid (R = false) := hR.trans (decide_eq_false fun h => hc h.1);clear hc;clear hR;go_enter Tryz.func32, Tryz.ntmps32
   go_wp2_with fail
   refine CF.out.mono ?_;rintro e w1 ⟨rfl, hb1⟩;have HB1 : Hid (Gr w w1) := HBA.out.trans hb1;obtain ⟨i0, i1, i2, i3, i4, i5, i6⟩ := cells7 (hb_ HG1.out hb1);clear hb1 CF HG0 HG1 HBA j0 j1 j2 j3 j4;go_wp2_with fail
   go_ret
   exact ⟨rb_ HD.out, HB1.out⟩
end Go.Proofs.YtclplbapedmihaaGreat.Au
