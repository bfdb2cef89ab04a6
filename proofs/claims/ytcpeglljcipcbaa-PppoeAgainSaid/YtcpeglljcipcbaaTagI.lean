/-
  tags.Decode, whatever bytes come.
-/
import Derived.Test.YtcpeglljcipcbaaTagH
import Derived.WalkMore
namespace Go.Proofs.Ytcpeglljcipcbaa
open Go.RowKit
set_option linter.unusedVariables false
set_option linter.unusedSimpArgs false

/-- What Decode tells: new tags, each value in new memory. -/
def DecR (l : List UInt8) (w : World) (e : Ending) (w' : World) : Prop :=
  ∃ v, e = .returned (.tuple #[v, .int .i64 (dec l).2]) ∧ (∃ ts, plain ts = (dec l).1 ∧ TO w' w.heap.size v ts) ∧ Below w.heap.size w w'
theorem DecR.none {l : List UInt8} {w w' : World} {k : Int} (h : dec l = ([], k)) (hb : Below w.heap.size w w') : DecR l w (.returned (.tuple #[.slice Option.none 0 0, .int .i64 k])) w' :=
  ⟨_, by rw [h], ⟨[], by rw [h]; rfl, TO.nil _ _⟩, hb⟩
theorem DecR.some {l : List UInt8} {w w' : World} {v : Value} {ts : List Tg} (h : dec l = (plain ts, 0)) (ho : TO w' w.heap.size v ts) (hb : Below w.heap.size w w') : DecR l w (.returned (.tuple #[v, .int .i64 0])) w' :=
  ⟨_, by rw [h], ⟨ts, by rw [h], ho⟩, hb⟩
/-- What is left, and what has been found. -/
structure DI (l : List UInt8) (w wr : World) (bv lv : Value) (n m : Nat) (r : List UInt8) (ts : List Tg) : Prop where
  len : r.length = m
  le : m ≤ n
  bs : Bs w bv r
  dec : decL [] l = decL (plain ts) r
  own : TO wr w.heap.size lv ts
  few : ts.length ≤ 64
  low : Below w.heap.size w wr
theorem fok_not {acc : List PT} {r : List UInt8} (h : ¬ fok r) (h0 : 0 < r.length) : decL acc r = ([], 50) := by
  by_cases h4 : r.length < 4
  · exact decL_short _ _ h0 h4
  · exact decL_less _ _ (by omega) (by unfold fok at h; omega)

set_option maxRecDepth 20000 in
set_option maxHeartbeats 4000000 in
theorem decode_any (a : Option Addr) (n c : Nat) (l : List UInt8) (hn : l.length = n) (w : World) (hb : Bs w (.slice a n c) l) (hr : n ≤ 140737488351232) :
    Calls Try.prog 39 #[.slice a n c] w (DecR l w) := by
  obtain ⟨i0, hi, hz0, hz1, hz2⟩ := info_parts infoT
  have HN := Lib.hid hn
  have HBS := Lib.hid hb
  by_cases hlong : 1494 < n
  · have HD := Lib.hid (dec_long (l := l) (by omega))
    clear hn hb
    go_enter Try.func39, Try.ntmps39
    go_wp2
    go_step3
    go_wp2
    rw [Exit.noGoto_ret]
    go_ret2
    exact DecR.none HD.out (Below.refl _ _)
  have HD := Lib.hid (dec_fits (l := l) (by omega))
  have HI0 : Hid (DI l w w (.slice a n c) (.slice none 0 0) n n l []) := ⟨hn, Nat.le_refl _, hb, rfl, TO.nil _ _, Nat.zero_le _, Below.refl _ _⟩
  clear hn hb
  go_enter Try.func39, Try.ntmps39
  go_wp2
  go_step3
  go_wp2
  go_step3
  go_wp2
  go_loopw [0, 4] (fun bv lv wr => ∃ (m : Nat) (a' : Option Addr) (c' : Nat) (r : List UInt8) (ts : List Tg), bv = .slice a' m c' ∧ Hid (DI l w wr bv lv n m r ts)) (fun bv _ _ => slen bv)
  case atStart => exact ⟨n, a, c, l, [], rfl, HI0⟩
  case round =>
    clear HI0
    obtain ⟨m, a', c', r, ts, rfl, HI⟩ := hrel
    have HLOW := Lib.hid HI.out.low
    have HBN := Lib.hid HI.out.low.size
    have HOWN := Lib.hid HI.out.own
    have hmn := HI.out.le
    have hlow : w.heap.size ≤ wr.heap.size := HBN.out
    by_cases h0 : m = 0
    · have HD2 : Hid (dec l = (plain ts, 0)) := by
        show _ = _
        rw [HD.out, HI.out.dec]
        exact decL_nil _ _ (by rw [HI.out.len]; exact h0)
      subst h0
      go_wp2
      go_ret2
      exact DecR.some HD2.out HOWN.out HLOW.out
    · have hm0 : 0 < m := by omega
      have FA := Lib.hid (first_any a' m c' r HI.out.len w wr HI.out.bs HI.out.low (by omega))
      clear h0
      go_wp2_with fail
      refine FA.out.mono ?_
      rintro e w1 (⟨hf, rfl, hb1⟩ | ⟨hf, A, C, a2, c2, rfl, hown1, hbs1, hb1⟩)
      · have HD2 : Hid (dec l = ([], 50)) := by
          show _ = _
          rw [HD.out, HI.out.dec]
          exact fok_not hf (by rw [HI.out.len]; exact hm0)
        have HB1 := Lib.hid (HLOW.out.trans (hb1.mono hlow))
        clear hb1 hf
        go_wp2
        go_ret2
        exact DecR.none HD2.out (HB1.out.alloc (by have := HB1.out.size; omega) _)
      · obtain ⟨X, hX⟩ : ∃ X, X = tT r := ⟨_, rfl⟩
        obtain ⟨Y, hY⟩ : ∃ Y, Y = tN r := ⟨_, rfl⟩
        rw [← hY] at hown1 hbs1
        rw [← hX, ← hY]
        have HX := Lib.hid hX
        have HY := Lib.hid hY
        have HF := Lib.hid hf
        have hx16 : X < 65536 := by rw [hX]; exact tT_lt r hf.1
        have hy16 : Y < 65536 := by rw [hY]; exact tN_lt r hf.1
        have hymr : 4 + Y ≤ m := by have h1 := hf.2; rw [← hY, HI.out.len] at h1; exact h1
        have HB1 := Lib.hid (HLOW.out.trans (hb1.mono hlow))
        have hs1 : wr.heap.size ≤ w1.heap.size := hb1.size
        have HO1 := Lib.hid (HOWN.out.below hb1)
        have HV1 := Lib.hid (hown1.mono hlow)
        have HBS1 := Lib.hid hbs1
        have BA : Below w1.heap.size w1 (w1.alloc (.cells #[.int .i64 (X : Int), .slice A Y C] 61)) := (Below.refl _ _).alloc (Nat.le_refl _) _
        have HBA := Lib.hid BA
        have HB2 : Hid (Below w.heap.size w (w1.alloc (.cells #[.int .i64 (X : Int), .slice A Y C] 61))) := HB1.out.trans (BA.mono (by omega))
        clear hX hY hf hown1 hbs1 hb1 BA
        by_cases hX0 : X = 0
        · subst hX0
          by_cases hY0 : Y = 0
          · subst hY0
            have HD2 : Hid (dec l = (plain ts, 0)) := by
              show _ = _
              rw [HD.out, HI.out.dec]
              exact decL_end _ _ HF.out.1 HX.out.symm HY.out.symm
            have HO2 := Lib.hid (HO1.out.below HBA.out)
            go_wp2
            rw [Exit.noGoto_ret]
            go_ret2
            exact DecR.some HD2.out HO2.out HB2.out
          · have HD2 : Hid (dec l = ([], 50)) := by
              show _ = _
              rw [HD.out, HI.out.dec]
              exact decL_bad _ _ HF.out.1 HX.out.symm (by rw [← HY.out]; exact hY0)
            have hy0 : 0 < Y := by omega
            go_wp2
            rw [Exit.noGoto_ret]
            go_ret2
            exact DecR.none HD2.out HB2.out
        · have hx0 : ((X : Int) == 0) = false := by simpa using hX0
          obtain ⟨N, hN⟩ : ∃ N, N = ts.length := ⟨_, rfl⟩
          obtain ⟨al, cl, evl, _, _⟩ := HO1.out.tr.shape
          rw [← hN] at evl
          subst evl
          have HNN := Lib.hid hN
          have hN64 : N ≤ 64 := by rw [hN]; exact HI.out.few
          clear hN
          by_cases h64 : N = 64
          · have HD2 : Hid (dec l = ([], 3)) := by
              show _ = _
              rw [HD.out, HI.out.dec]
              refine decL_many _ _ HF.out.1 (by rw [← HX.out]; exact hX0) ?_ (by rw [plain_length, ← HNN.out]; exact h64)
              have h2 := HF.out.2
              omega
            subst h64
            go_wp2
            rw [Exit.noGoto_ret]
            go_ret2
            exact DecR.none HD2.out HB2.out
          · have h64' : ((N : Int) == 64) = false := by rw [beq_eq_false_iff_ne]; omega
            have HD2 : Hid (decL [] l = decL (plain (ts ++ [(⟨(X : Int), .slice A Y C, (r.drop 4).take Y⟩ : Tg)])) (r.drop (4 + Y))) := by
              show _ = _
              rw [HI.out.dec, decL_next _ _ HF.out.1 (by rw [← HX.out]; exact hX0) (by have h2 := HF.out.2; omega) (by rw [plain_length, ← HNN.out]; exact h64), ← HX.out, ← HY.out, plain_append]
              rfl
            have HG : Hid ((w1.alloc (.cells #[.int .i64 (X : Int), .slice A Y C] 61)).heap[w1.heap.size]? = some (.cells #[.int .i64 (X : Int), .slice A Y C] 61)) := heap_alloc_last _ _
            have HO2 := Lib.hid (HO1.out.below HBA.out)
            have HV2 := Lib.hid (HV1.out.below HBA.out)
            have hsz2 : w.heap.size ≤ (w1.alloc (.cells #[.int .i64 (X : Int), .slice A Y C] 61)).heap.size := by simp; omega
            have hsz3 : (w1.alloc (.cells #[.int .i64 (X : Int), .slice A Y C] 61)).heap.size = w1.heap.size + 1 := by simp
            have HBC : Hid (Below (w1.alloc (.cells #[.int .i64 (X : Int), .slice A Y C] 61)).heap.size (w1.alloc (.cells #[.int .i64 (X : Int), .slice A Y C] 61)) ((w1.alloc (.cells #[.int .i64 (X : Int), .slice A Y C] 61)).alloc (.cells #[.int .i64 (X : Int), .slice A Y C] 61))) := (Below.refl _ _).alloc (Nat.le_refl _) _
            have HO3 := Lib.hid (HO2.out.below HBC.out)
            have HV3 := Lib.hid (HV2.out.below HBC.out)
            have HB3 : Hid (Below w.heap.size w ((w1.alloc (.cells #[.int .i64 (X : Int), .slice A Y C] 61)).alloc (.cells #[.int .i64 (X : Int), .slice A Y C] 61))) := HB2.out.trans (HBC.out.mono hsz2)
            have HRD : Hid (Rd ((w1.alloc (.cells #[.int .i64 (X : Int), .slice A Y C] 61)).alloc (.cells #[.int .i64 (X : Int), .slice A Y C] 61)) 2 (.slice (some ⟨w1.heap.size + 1, 0, none⟩) 1 1) 1 [.int .i64 (X : Int), .slice A Y C]) := by
              have := rd_new (w1.alloc (.cells #[.int .i64 (X : Int), .slice A Y C] 61)) [.int .i64 (X : Int), .slice A Y C] 61 1 2 rfl (by decide)
              rw [hsz3] at this
              exact this
            have hc4 : ts.length + 1 ≤ 65 := by rw [← HNN.out]; omega
            have hN63 : N + 1 ≤ 64 := by omega
            clear h64 hsz2 hsz3
            go_wp2_with (at_builtin; refine wpList_append_gr _ rfl (.tmp 41) (.tmp 43) 62 rfl w.heap.size 61 i0 _ 2 32 Try.underlying62 hi hz0 hz1 hz2 rfl (by decide) _ _ _ rfl HO3.out.own _ 1 _ rfl HRD.out (one_tag _ rfl) ?p4 (by decide) HB3.out.size ?_)
            case p4 => omega
            intro v' wo ho' hg'
            have HO4 := Lib.hid (TO.more (t := ⟨(X : Int), .slice A Y C, (r.drop 4).take Y⟩) HO3.out HV3.out ho' hg')
            have HB4 := Lib.hid (HB3.out.trans (grown_below HO3.out.own HB3.out.size hg'))
            have HI2 : Hid (DI l w wo (.slice a2 (m - 4 - Y) c2) v' n (m - 4 - Y) (r.drop (4 + Y)) (ts ++ [(⟨(X : Int), .slice A Y C, (r.drop 4).take Y⟩ : Tg)])) := by
              refine ⟨?_, by omega, HBS1.out, HD2.out, HO4.out, ?_, HB4.out⟩
              · rw [List.length_drop, HI.out.len]; omega
              · rw [List.length_append, ← HNN.out]; exact hN63
            clear ho' hg'
            go_wp2
            go_roundw
            case rel =>
              first | exact ⟨m - 4 - Y, a2, c2, r.drop (4 + Y), _, rfl, HI2⟩ | ((repeat apply Exists.intro); exact ⟨⟨m - 4 - Y, a2, c2, r.drop (4 + Y), _, rfl, HI2⟩, rfl⟩)
            case measure => simp [slen]; omega
end Go.Proofs.Ytcpeglljcipcbaa
