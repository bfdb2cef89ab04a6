/-
  slices.Values, AppendSeq, Collect of a queue's row: a row of one's own.
-/
import Derived.Test.YtmcifmgfgdahnaaTmI
import Derived.Test.YtmcifmgfgdahnaaRng
import Derived.RangeFuncNested
import Derived.Shelf.Abstract
import Derived.WalkKit
import Derived.OwnWalkIn
import Derived.TacticsInMore
import Derived.LoopNIn
import Derived.LoopIn
namespace Go.Proofs.Ytmcifmgfgdahnaa.Tm
open Go.RowKit Go.Shelf
open Go.Proofs.Ytmcifmgfgdahnaa.Id (Tr Tr.refl Tr.gr Tr.only blk own_blk flatR flatR_len flatR_get flatR_cons flatR_append flatR_one flatR_cell RR)
set_option linter.unusedVariables false
set_option linter.unusedSimpArgs false
attribute [local go_sem] Oper.semAt_some

def encT (x : D) : Array Value := #[.agg #[.int .i64 x.1, .int .i64 x.2]]
theorem values_any (a : Option Addr) (n c : Nat) (w : World) :
    Calls Try.prog 26 #[.slice a n c] w fun e w' => e = .returned (.func (.func 35) #[] #[.pointer (some ⟨w.heap.size, 0, none⟩)]) ∧ w' = w.alloc (.cells #[.slice a n c] 58) := by
  go_enter Try.func26, Try.ntmps26
  go_wp2
  go_ret
  exact ⟨rfl, rfl⟩
set_option maxRecDepth 100000 in
set_option maxHeartbeats 4000000 in
theorem values1_in (lp B0 bx : Nat) (w0 W : World) {v : Value} {q : List D} (hq : Rw w0 56 v q) (hn : q.length ≤ 65536) (hW : Below w0.heap.size w0 W) (hB0 : w0.heap.size ≤ B0)
    (J Jx : List D → World → Prop) (hJ : ∀ xs A B, J xs A → Gr A B → J xs B)
    (hY : ∀ xs x V, J xs V → xs.length < 65536 → YieldAt Fence.wide 0 Try.prog lp (encT x) V fun e V' => (e = .returned (.bool true) ∧ J (xs ++ [x]) V' ∧ Below B0 V V') ∨ (e = .returned (.bool false) ∧ Jx (xs ++ [x]) V'))
    (hbox : W.heap[bx]? = some (.cells #[v] 58 (0, 0))) (h0 : J [] W) :
    CallsIn Fence.wide 0 Try.prog 35 #[.func (.yield lp) #[] #[], .pointer (some ⟨bx, 0, none⟩)] W fun e V => (∃ v, e = .returned v) ∧ ((∃ xs, xs = q ∧ J xs V) ∨ (∃ xs, Jx xs V)) := by
  have HJ := Lib.hid hJ
  have HY := Lib.hid hY
  have H0 := Lib.hid h0
  have HW := Lib.hid hW
  have HR := Lib.hid hq.rr
  obtain ⟨a, c, ev, hc1, hc2⟩ := hq.rr.shape
  obtain ⟨n, hnn⟩ : ∃ n, n = q.length := ⟨_, rfl⟩
  rw [← hnn] at ev hc1 hn
  subst ev
  have HN := Lib.hid hnn
  have kbx := cell1 hbox
  clear hJ hY h0 hW hbox hq hc1 hc2 hnn
  refine callsIn_of_wp Try.func35 rfl trivial ?_ rfl
  simp only [Try.ntmps35, List.size_toArray, List.length_cons, List.length_nil, Nat.reduceAdd, Nat.reduceSub, Array.replicate_succ, Array.replicate_zero, List.push_toArray, List.append_toArray, List.nil_append, List.cons_append]
  gi_wp2
  clear kbx
  gi_loopw [7] (fun iv wr => ∃ i : Nat, iv = .int .i64 (i : Int) ∧ i ≤ n ∧ Hid (J (q.take i) wr) ∧ Hid (Below w0.heap.size w0 wr)) (fun iv _ => n - (intOf iv).toNat)
  case atStart => exact ⟨0, rfl, Nat.zero_le _, H0, HW⟩
  case round =>
    obtain ⟨i, rfl, hin, HJX, HLOW⟩ := hrel
    by_cases hlt : i < n
    · have hil : i < q.length := by rw [← HN.out]; exact hlt
      have hrr := HR.out
      unfold RR at hrr
      rw [← HN.out] at hrr
      obtain ⟨b, o, ea, _, hcel⟩ := RR.cells HR.out (by omega)
      subst ea
      obtain ⟨x, hx⟩ : ∃ x, x = q[i] := ⟨_, rfl⟩
      obtain ⟨c0, c1⟩ := hcel i hil
      rw [← hx] at c0 c1
      have d0 := cell_gr (Below.mono HLOW.out (Nat.le_refl _)) c0
      have d1 := cell_gr (Below.mono HLOW.out (Nat.le_refl _)) c1
      have HX : Hid (q.take i ++ [x] = q.take (i + 1)) := by show _ = _; rw [List.take_add_one, List.getElem?_eq_getElem hil, hx]; rfl
      have HTL : Hid ((q.take i).length < 65536) := by show _ < _; rw [List.length_take]; omega
      have HIN : Hid ((i : Int) ≤ 65536 ∧ i < n) := ⟨by omega, hlt⟩
      have hb4 : Gr wr (wr.alloc (.cells #[.int .i64 x.1, .int .i64 x.2] 56)) := (Gr.refl _).alloc _
      have HLOW4 : Hid (Below w0.heap.size w0 (wr.alloc (.cells #[.int .i64 x.1, .int .i64 x.2] 56))) := HLOW.out.trans (Below.mono hb4 HLOW.out.size)
      obtain ⟨fn, tmps, assign, body, hy, hR⟩ := HY.out _ x _ (HJ.out _ _ _ HJX.out hb4) HTL.out
      dsimp only [encT] at hy
      clear hrr hcel hx c0 c1 hil hb4
      gi_wp2
      refine ⟨rfl, hR.mono ?_⟩
      rintro e w5 (⟨rfl, hj5, hb5⟩ | ⟨rfl, hx5⟩)
      · rw [HX.out] at hj5
        have HJ5 := Lib.hid hj5
        have HLOW5 := Lib.hid (HLOW4.out.trans (hb5.mono hB0))
        clear hj5 hb5 hy hR d0 d1
        gi_wp2
        go_roundw
        case rel =>
          have hle : i + 1 ≤ n := by omega
          first | exact ⟨i + 1, by go_num, hle, HJ5, HLOW5⟩ | ((repeat apply Exists.intro); exact ⟨⟨i + 1, by go_num, hle, HJ5, HLOW5⟩, rfl⟩)
        case measure => simp [intOf]; omega
      · have HX5 := Lib.hid hx5
        clear hx5 hy hR d0 d1
        gi_wp2
        refine bodyPost_ret (results_none rfl _ _ _) rfl ?_
        exact ⟨⟨_, rfl⟩, .inr ⟨_, HX5.out⟩⟩
    · have HA : Hid (J q wr) := by
        have h := HJX.out
        rw [List.take_of_length_le (by rw [← HN.out]; omega)] at h
        exact h
      gi_wp2
      go_end0
      exact ⟨⟨_, rfl⟩, .inl ⟨q, rfl, HA.out⟩⟩
theorem one_pair (p : D) : ∀ u ∈ ([.int .i64 p.1, .int .i64 p.2] : List Value), u.oneCell' = true := two_cell p
/-- Between two rounds. -/
structure TQ (w : World) (xs : List (Int × Int)) (W : World) : Prop where
  few : xs.length ≤ 65536
  low : Below w.heap.size w W
  lv : ∃ v, W.heap[w.heap.size]? = some (.cells #[v] 58 (0, 0)) ∧ W.ownsRow w.heap.size 56 2 v xs.length (flatR xs)
theorem TQ.turns (w : World) (B : Nat) (hB : w.heap.size ≤ B) (xs : List (Int × Int)) : Turns B (TQ w xs) := fun A l o o' h hl ho hc => by
  refine ⟨h.few, turns_below hB A l o o' h.low hl ho hc, ?_⟩
  obtain ⟨v, h1, h2⟩ := h.lv
  exact ⟨v, turns_block A l o o' h1 hl ho hc, turns_row A l o o' h2 hl ho hc⟩
theorem TQ.gr {w : World} {xs : List (Int × Int)} {A B : World} (h : TQ w xs A) (hq : Gr A B) : TQ w xs B := by
  refine ⟨h.few, h.low.trans (Below.mono hq h.low.size), ?_⟩
  obtain ⟨v, h1, h2⟩ := h.lv
  exact ⟨v, heap_gr hq h1, ownsRow_below h2 hq⟩
/-- What stands behind the round's assignments. -/
def MidT (w : World) (xs : List (Int × Int)) (x : Int × Int) (b : Act) (W : World) : Prop :=
  TQ w xs W ∧ xs.length < 65536 ∧ ∃ g, w.heap.size < g ∧ W.heap[g]? = some (.cells #[.int .i64 x.1, .int .i64 x.2] 56 (0, 0)) ∧
    ∃ t0 t1 t3 t4 t6 t7 t8 t9 t10 t11 t12, b = { tmps := #[t0, t1, .pointer (some ⟨w.heap.size, 0, none⟩), t3, t4, .pointer (some ⟨g, 0, none⟩), t6, t7, t8, t9, t10, t11, t12], defers := [] }
theorem MidT.turns (w : World) (B : Nat) (hB : w.heap.size ≤ B) (xs : List (Int × Int)) (x : Int × Int) (b : Act) : Turns B (MidT w xs x b) := fun A l o o' h hl ho hc => by
  obtain ⟨h1, h2, g, h3, h4, h5⟩ := h
  exact ⟨TQ.turns w B hB xs A l o o' h1 hl ho hc, h2, g, h3, turns_block A l o o' h4 hl ho hc, h5⟩
set_option maxRecDepth 100000 in
set_option maxHeartbeats 4000000 in
theorem appendSeq_t (bx : Nat) {v : Value} {q : List D} (w : World) (h : Rw w 56 v q) (hn : q.length ≤ 65536) (hbox : w.heap[bx]? = some (.cells #[v] 58 (0, 0))) :
    Calls Try.prog 41 #[.slice none 0 0, .func (.func 35) #[] #[.pointer (some ⟨bx, 0, none⟩)]] w fun e w' => ∃ v, e = .returned v ∧ w'.ownsRow w.heap.size 56 2 v q.length (flatR q) ∧ Below w.heap.size w w' := by
  obtain ⟨i0, hi, hz0, hz1, hz2⟩ := info_parts infoT
  have HH := Lib.hid h
  have HBX := Lib.hid hbox
  have HQN := Lib.hid hn
  refine (callsIn_wide (n := 0)).1 ?_
  refine callsIn_of_wp_marks Try.func41 rfl trivial ?_ rfl
  simp only [Try.ntmps41, List.size_toArray, List.length_cons, List.length_nil, Nat.reduceAdd, Nat.reduceSub, Array.replicate_succ, Array.replicate_zero, List.push_toArray, List.append_toArray, List.nil_append, List.cons_append]
  clear h hbox hn
  gi_wp2
  have HQ4 : Hid (Below w.heap.size w (w.alloc (.cells #[.slice none 0 0] 58))) := (Below.refl _ _).alloc (Nat.le_refl _) _
  have H0 : Hid (TQ w [] (w.alloc (.cells #[.slice none 0 0] 58))) := ⟨Nat.zero_le _, HQ4.out, _, heap_alloc_last _ _, World.ownsRow_nil _ _ _ _⟩
  have hsz : w.heap.size < (w.alloc (.cells #[.slice none 0 0] 58)).heap.size := by simp
  generalize w.alloc (.cells #[.slice none 0 0] 58) = w4 at HQ4 H0 hsz ⊢
  have hle4 : w.heap.size ≤ w4.heap.size := by omega
  refine ranged (B := w.heap.size) hle4 (gf := 35) (lb := #[.pointer (some ⟨bx, 0, none⟩)]) rfl (enters_of Try.func35 (by kernel_rfl) rfl) encT (fun _ => rfl)
    (fun xs _ _ => xs.length < 65536) (TQ w) (fun _ _ => False) (MidT w) (fun xs => xs = q) (TQ.turns w _ hle4) (fun _ _ _ _ _ h _ _ _ => h) (MidT.turns w _ hle4) (fun _ _ _ h hq => h.gr hq) H0.out ?assign ?body ?seq ?done ?stop
  case seq =>
    intro lp J Jx W hW hJ hY h0
    exact values1_in lp w.heap.size bx w W HH.out HQN.out (HQ4.out.trans (Below.mono hW HQ4.out.size)) (Nat.le_refl _) J Jx hJ (fun xs x V hV hx => hY xs x V hV hx) (heap_gr hW (heap_gr HQ4.out HBX.out)) h0
  case assign =>
    intro lp xs x W hI hG
    have HI := Lib.hid hI
    have HG := Lib.hid hG
    clear hI hG
    simp only [encT]
    gi_wp2
    have hal : Gr W (W.alloc (.cells #[.int .i64 x.1, .int .i64 x.2] 56)) := (Gr.refl W).alloc _
    have hg : w.heap.size < W.heap.size := by obtain ⟨v, h1, _⟩ := HI.out.lv; exact (Array.getElem?_eq_some_iff.1 h1).1
    exact ⟨(KeepsOthers.alloc _ _).from _, Below.alloc (Below.refl _ W) HI.out.low.size _, HI.out.gr hal, HG.out, W.heap.size, hg, heap_alloc_last _ _, _, _, _, _, _, _, _, _, _, _, _, rfl⟩
  case body =>
    rintro lp xs x b W ⟨hI, hG, gx, hgl, hg, t0, t1, t3, t4, t6, t7, t8, t9, t10, t11, t12, rfl⟩
    obtain ⟨vl, hv, hown⟩ := hI.lv
    obtain ⟨al, cl, rfl, _, _⟩ := (own_rd hown).shape
    have bl : Boxed W w.heap.size 58 (.slice al xs.length cl) := hv
    have hcl := bl.cell
    have hfl := bl.frozen
    obtain ⟨k0, k1⟩ := copy_cells hg
    have HROW := Lib.hid hown
    have HBL := Lib.hid bl
    have HI := Lib.hid hI
    have hlow := hI.low.size
    obtain ⟨N, hN⟩ : ∃ N, N = xs.length := ⟨_, rfl⟩
    rw [← hN] at hcl HBL hG HROW
    have HN := Lib.hid hN
    clear hI hv hown bl hg hN
    gi_wp2_with (gi_at_builtin; refine wpListIn_append_own _ rfl (.tmp 8) (.tmp 10) 58 rfl w.heap.size 56 i0 _ 2 16 Try.underlying58 hi hz0 hz1 hz2 rfl (by decide) _ _ _ rfl (World.ownsRow.alloc HROW.out _) ⟨W.heap.size, 0, none⟩ 1 1 [.int .i64 x.1, .int .i64 x.2] rfl rfl (cells_new W [.int .i64 x.1, .int .i64 x.2] 56) (one_pair x) (by unfold maxLen; omega) (by omega) (by simp; omega) ?_; intro v' w1 hown' hgrow _; obtain ⟨g', cap', rfl⟩ := ownsRow_succ hown'; obtain ⟨hv1, hv2, hr2, hk2, hb2⟩ := HBL.out.appended (by decide) HROW.out hlow (by omega) hown' hgrow; have hc1 := hv1.cell; have hf1 := hv1.frozen)
    refine ⟨hk2.from _, hb2, ⟨by rw [List.length_append, ← HN.out]; simp; omega, HI.out.low.trans hb2, _, hv2, ?_⟩⟩
    rw [flatR_append, flatR_one, List.length_append, ← HN.out]
    exact hr2
  case done =>
    intro D xs W hD hS hI hK
    obtain ⟨v, hv, hown⟩ := hI.lv
    obtain ⟨al, cl, rfl, _, _⟩ := (own_rd hown).shape
    have bl : Boxed W w.heap.size 58 (.slice al xs.length cl) := hv
    have HI := Lib.hid hI
    have HO := Lib.hid hown
    have hcl := bl.cell
    subst hS
    obtain ⟨N, hN⟩ : ∃ N, N = xs.length := ⟨_, rfl⟩
    rw [← hN] at hcl HO
    have HN := Lib.hid hN
    have HKK := Lib.hid hK
    clear hI hown hv bl hK hN
    gi_wp2
    refine ⟨by simp, .inl ⟨_, _, rfl, run_takeDeferred HKK.out, ?_⟩⟩
    refine ⟨_, results_tmp rfl _ _ _, _, rfl, ?_, turns_below hle4 _ D _ (.deferred none) HI.out.low hD HKK.out rfl⟩
    have := turns_row (B := w4.heap.size) _ D _ (.deferred none) HO.out hD HKK.out rfl
    rw [← HN.out]
    exact this
  case stop =>
    intro D xs W hD hX hK
    exact hX.elim
theorem collect_t (bx : Nat) {v : Value} {q : List D} (w : World) (h : Rw w 56 v q) (hn : q.length ≤ 65536) (hbox : w.heap[bx]? = some (.cells #[v] 58 (0, 0))) :
    Calls Try.prog 33 #[.func (.func 35) #[] #[.pointer (some ⟨bx, 0, none⟩)]] w fun e w' => ∃ v, e = .returned v ∧ w'.ownsRow w.heap.size 56 2 v q.length (flatR q) ∧ Below w.heap.size w w' := by
  have HA := Lib.hid (appendSeq_t bx w h hn hbox)
  clear h hbox
  go_enter Try.func33, Try.ntmps33
  go_wp2_with fail
  refine HA.out.mono ?_
  rintro e w1 ⟨v, rfl, ho, hb⟩
  have HO := Lib.hid ho
  have HB := Lib.hid hb
  clear ho hb HA
  go_wp2
  go_ret
  exact ⟨_, rfl, HO.out, HB.out⟩
end Go.Proofs.Ytmcifmgfgdahnaa.Tm
