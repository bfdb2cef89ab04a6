/-
  The laws' cut and Few.
-/
import Derived.Test.YteemcckfhadkhaaOpA
import Derived.Test.YteemcckfhadkhaaOpen
import Derived.Test.YteemcckfhadkhaaOnly
namespace Go.Proofs.Yteemcckfhadkhaa.O
open Go.RowKit
set_option linter.unusedVariables false
set_option linter.unusedSimpArgs false
theorem cut_any (a : Option Addr) (n c : Nat) (w : World) (hn : n ≤ c) (hc : c ≤ maxLen):
    Calls Try.prog 11 #[.slice a n c] w fun e w' => e = .returned (.slice a (min n 1500) c) ∧ w = w' := by
  unfold maxLen at hc
  by_cases h : n ≤ 1500
  · have e : min n 1500 = n := by omega
    rw [e]
    go_enter Try.func11, Try.ntmps11
    go_wp2
    go_ret
    exact ⟨rfl, rfl⟩
  · have e : min n 1500 = 1500 := by omega
    rw [e]
    go_enter Try.func11, Try.ntmps11
    go_wp2
    go_ret
    exact ⟨rfl, rfl⟩
theorem cut_in {W : World} {a : Option Addr} {n c : Nat} {l : List UInt8} (hn : l.length = n) (b : Bs W (.slice a n c) l) :
    ∃ (m : Nat) (x : List UInt8), m ≤ 1500 ∧ x.length = m ∧ Bs W (.slice a m c) x ∧ ∀ w, Calls Try.prog 11 #[.slice a n c] w fun e w' => e = .returned (.slice a m c) ∧ w = w' := by
  obtain ⟨_, _, es, hc, hm⟩ := b.shape
  simp only [Value.slice.injEq] at es
  obtain ⟨rfl, _, rfl⟩ := es
  have u := b.upto hn (min n 1500) (by omega)
  have g : (l.take (min n 1500)).length = min n 1500 := by rw [List.length_take]; omega
  exact ⟨min n 1500, l.take (min n 1500), by omega, g, u, fun w => cut_any a n c w (by omega) hm⟩

/-- An option of which 260 bytes are looked at. -/
def cutV : Value → Value
  | .slice a n c => .slice a (min n 260) c
  | v => v
def cutT (t : Tg) : Tg := ⟨t.typ, cutV t.val, t.l.take 260⟩
def fewT (ts : List Tg) : List Tg := (ts.take 70).map cutT
theorem fewT_len (ts : List Tg) : (fewT ts).length ≤ 70 := by unfold fewT; rw [List.length_map, List.length_take]; omega
theorem fewT_snoc (ts : List Tg) (k : Nat) (h : k < ts.length) : ((ts.take (k + 1)).map cutT) = (ts.take k).map cutT ++ [cutT ts[k]] := by
  rw [List.take_succ_eq_append_getElem h, List.map_append]; rfl
theorem fewT_small (ts : List Tg) : ∀ t ∈ fewT ts, t.l.length ≤ 260 := by
  intro t ht
  obtain ⟨x, _, rfl⟩ := List.mem_map.1 ht
  show (x.l.take 260).length ≤ 260
  rw [List.length_take]; omega
theorem cutT_bs {w : World} {t : Tg} (h : Bs w t.val t.l) : Bs w (cutT t).val (cutT t).l := by
  obtain ⟨A, L, C, hv, hL, hLC, hCm⟩ := h.sl
  rw [hv] at h
  have := h.upto hL (min L 260) (by omega)
  show Bs w (cutV t.val) (t.l.take 260)
  rw [hv]
  have e : t.l.take (min L 260) = t.l.take 260 := by
    by_cases h : L ≤ 260
    · rw [List.take_of_length_le (by omega), List.take_of_length_le (by omega)]
    · rw [show min L 260 = 260 by omega]
  rw [e] at this
  exact this
theorem few_tr {w wr : World} {v : Value} {n c k : Nat} {ao : Option Addr} {ts : List Tg} (hr : TR w (.slice ao n c) n ts) (hb : Below w.heap.size w wr) (ho : wr.ownsRow w.heap.size 36 2 v k (flat ((ts.take k).map cutT))) (hk : (ts.take k).map cutT = fewT ts) :
    TR wr v (fewT ts).length (fewT ts) := by
  have e : (fewT ts).length = k := by
    have := (own_rd ho).1
    rw [flat_length, hk] at this
    omega
  rw [hk] at ho
  refine ⟨?_, fun t ht => ?_⟩
  · rw [e]; exact own_rd ho
  · obtain ⟨x, hx, rfl⟩ := List.mem_map.1 ht
    exact (cutT_bs (hr.vals x (List.mem_of_mem_take hx))).below hb

set_option maxRecDepth 20000 in
set_option maxHeartbeats 4000000 in
theorem few_any (ao : Option Addr) (n c : Nat) (ts : List Tg) (w : World) (hr : TR w (.slice ao n c) n ts) :
    Calls Try.prog 10 #[.slice ao n c] w fun e w' => ∃ a' c', e = .returned (.slice a' (fewT ts).length c') ∧ TR w' (.slice a' (fewT ts).length c') (fewT ts).length (fewT ts) ∧ Below w.heap.size w w' := by
  obtain ⟨i0, hi, hz0, hz1, hz2⟩ := info_parts infoT
  have hl := hr.len
  have HR := Lib.hid hr
  obtain ⟨_, _, es, hnc, hcm⟩ := hr.shape
  simp only [Value.slice.injEq] at es
  obtain ⟨rfl, z1, rfl⟩ := es
  clear z1 hr
  unfold maxLen at hcm
  go_enter Try.func10, Try.ntmps10
  go_wp2
  go_loopw [3, 4] (fun ov iv wr => ∃ k : Nat, k ≤ n ∧ k ≤ 70 ∧ iv = .int .i64 k ∧ wr.ownsRow w.heap.size 36 2 ov k (flat ((ts.take k).map cutT)) ∧ Below w.heap.size w wr) (fun _ iv _ => 70 - (intOf iv).toNat)
  case atStart => exact ⟨0, Nat.zero_le _, Nat.zero_le _, rfl, World.ownsRow_nil _ _ _ _, Below.refl _ _⟩
  case round =>
    obtain ⟨k, hk, hk70, rfl, hown, hb⟩ := hrel
    have HB := Lib.hid hb
    have HO := Lib.hid hown
    have HBN := Lib.hid hb.size
    clear hb hown
    by_cases hlt : k < n
    · by_cases hlt2 : k < 70
      · obtain ⟨b, o, rfl, hbl, hc⟩ := (HR.out.below HB.out).cells (by omega)
        obtain ⟨hc0, hc1⟩ := hc k (by omega)
        have HV := Lib.hid (HR.out.val k (by omega))
        obtain ⟨A, L, C, hv, hL, hLC, hCm⟩ := HV.out.sl
        rw [hv] at hc1
        have HE := Lib.hid hv
        have HL := Lib.hid hL
        obtain ⟨T, hT⟩ : ∃ T, T = ts[k].typ := ⟨_, rfl⟩
        rw [← hT] at hc0
        have HTT := Lib.hid hT
        unfold maxLen at hCm
        have hbn := HBN.out
        by_cases hL260 : L ≤ 260
        · have HCT : Hid (cutT ts[k] = ⟨T, .slice A L C, ts[k].l.take 260⟩) := by
            show _ = _
            unfold cutT cutV
            rw [hv, hT]
            show Tg.mk _ (.slice A (min L 260) C) _ = _
            rw [show min L 260 = L by omega]
          have HBA : Hid (Gr wr ((wr.alloc (.cells #[.int .i64 T, .slice A L C] 36)).alloc (.cells #[.int .i64 T, .slice A L C] 36))) := ((Gr.refl wr).alloc _).alloc _
          have HB1 := Lib.hid (HB.out.trans (Below.mono HBA.out hbn))
          have HO1 := Lib.hid (ownsRow_below HO.out HBA.out)
          have HRD : Hid (Rd ((wr.alloc (.cells #[.int .i64 T, .slice A L C] 36)).alloc (.cells #[.int .i64 T, .slice A L C] 36)) 2 (.slice (some ⟨wr.heap.size + 1, 0, none⟩) 1 1) 1 [.int .i64 T, .slice A L C]) := by
            have := rd_new (wr.alloc (.cells #[.int .i64 T, .slice A L C] 36)) [.int .i64 T, .slice A L C] 36 1 2 rfl (by decide)
            rw [World.size_alloc] at this
            exact this
          clear hv hL hT hc
          go_wp2_with (at_builtin; refine wpList_append_gr _ rfl (.tmp 28) (.tmp 30) 22 rfl w.heap.size 36 i0 _ 2 32 Try.underlying22 hi hz0 hz1 hz2 rfl (by decide) _ _ _ rfl HO1.out _ 1 _ rfl HRD.out (one_tag T rfl) ?p4 (by decide) HB1.out.size ?_)
          case p4 => omega
          intro v' wo ho' hg'
          have HO2 := Lib.hid ho'
          have HB2 := Lib.hid (HB1.out.trans (grown_below HO1.out HB1.out.size hg'))
          clear ho' hg'
          go_wp2
          go_roundw
          case rel =>
            have HO3 : wo.ownsRow w.heap.size 36 2 v' (k + 1) (flat ((ts.take (k + 1)).map cutT)) := by
              rw [fewT_snoc ts k (by omega), flat_append, HCT.out, List.map_take]
              exact HO2.out
            first | exact ⟨k + 1, by omega, by omega, by go_num, HO3, HB2.out⟩ | ((repeat apply Exists.intro); exact ⟨⟨k + 1, by omega, by omega, by go_num, HO3, HB2.out⟩, rfl⟩)
          case measure => simp [intOf]; omega
        · have HCT : Hid (cutT ts[k] = ⟨T, .slice A 260 C, ts[k].l.take 260⟩) := by
            show _ = _
            unfold cutT cutV
            rw [hv, hT]
            show Tg.mk _ (.slice A (min L 260) C) _ = _
            rw [show min L 260 = 260 by omega]
          have HGC : Hid ((wr.alloc (.cells #[.int .i64 T, .slice A L C] 36)).heap[wr.heap.size]? = some (.cells #[.int .i64 T, .slice A L C] 36)) := heap_alloc_last _ _
          have HBA : Hid (Gr wr (wr.alloc (.cells #[.int .i64 T, .slice A L C] 36))) := (Gr.refl wr).alloc _
          have hc260 : 260 < C := by omega
          clear hv hL hT hc
          go_wp2_with (refine wpList_store_cell rfl 23 (.tmp 27) (.tmp 26) rfl wr.heap.size 1 (.slice A 260 C) rfl rfl 36 [.int .i64 T, .slice A L C] HGC.out (by kernel_rfl) (by simp) rfl ?_)
          intro w3 h3 ho3
          have H3 : Hid (w3.heap[wr.heap.size]? = some (.cells #[.int .i64 T, .slice A 260 C] 36)) := h3
          have HBQ : Hid (Gr wr w3) := ho3.below _ _ (Nat.le_refl _) HBA.out
          obtain ⟨k0, k1⟩ := copy_cells H3.out
          have HBB : Hid (Gr wr (w3.alloc (.cells #[.int .i64 T, .slice A 260 C] 36))) := HBQ.out.alloc _
          have HB1 := Lib.hid (HB.out.trans (Below.mono HBB.out hbn))
          have HO1 := Lib.hid (ownsRow_below HO.out HBB.out)
          have HRD := Lib.hid (rd_new w3 [.int .i64 T, .slice A 260 C] 36 1 2 rfl (by decide))
          clear h3 ho3 hc0 hc1
          go_wp2_with (at_builtin; refine wpList_append_gr _ rfl (.tmp 28) (.tmp 30) 22 rfl w.heap.size 36 i0 _ 2 32 Try.underlying22 hi hz0 hz1 hz2 rfl (by decide) _ _ _ rfl HO1.out _ 1 _ rfl HRD.out (one_tag T rfl) ?p4 (by decide) HB1.out.size ?_)
          case p4 => omega
          intro v' wo ho' hg'
          have HO2 := Lib.hid ho'
          have HB2 := Lib.hid (HB1.out.trans (grown_below HO1.out HB1.out.size hg'))
          clear ho' hg'
          go_wp2
          go_roundw
          case rel =>
            have HO3 : wo.ownsRow w.heap.size 36 2 v' (k + 1) (flat ((ts.take (k + 1)).map cutT)) := by
              rw [fewT_snoc ts k (by omega), flat_append, HCT.out, List.map_take]
              exact HO2.out
            first | exact ⟨k + 1, by omega, by omega, by go_num, HO3, HB2.out⟩ | ((repeat apply Exists.intro); exact ⟨⟨k + 1, by omega, by omega, by go_num, HO3, HB2.out⟩, rfl⟩)
          case measure => simp [intOf]; omega
      · obtain rfl : k = 70 := by omega
        have HT := Lib.hid (few_tr HR.out HB.out HO.out rfl)
        obtain ⟨a', c', ev, _, _⟩ := HT.out.shape
        subst ev
        go_wp2
        go_ret
        exact ⟨a', c', rfl, HT.out, HB.out⟩
    · obtain rfl : n = k := by omega
      have HT := Lib.hid (few_tr HR.out HB.out HO.out (by unfold fewT; rw [List.take_of_length_le (by omega), List.take_of_length_le (by omega)]))
      obtain ⟨a', c', ev, _, _⟩ := HT.out.shape
      subst ev
      go_wp2
      go_ret
      exact ⟨a', c', rfl, HT.out, HB.out⟩
end Go.Proofs.Yteemcckfhadkhaa.O
