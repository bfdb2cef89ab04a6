/-
  The document's: Take.
-/
import Derived.Test.YtoemghinolekgaaDoorPlKb
namespace Go.Proofs.YtoemghinolekgaaDoor.Pl
open Go.RowKit
open Go.Proofs.YtoemghinolekgaaDoor.Id (Tr Tr.refl Tr.gr Tr.only blk own_blk IR IR.cells IR.shape IR.nil)
set_option linter.unusedVariables false
set_option linter.unusedSimpArgs false

theorem freeL_first {S : Po} {i : Nat} (hi : i ∈ freeL S) (hno : ∀ j, j < i → j ∉ freeL S) : ∃ r, freeL S = i :: r := by
  have hs := freeL_rising S
  cases hf : freeL S with
  | nil => rw [hf] at hi; cases hi
  | cons k r =>
    rw [hf] at hi hs
    rw [List.pairwise_cons] at hs
    rcases List.mem_cons.1 hi with rfl | h
    · exact ⟨r, rfl⟩
    · have h1 := hs.1 i h
      exact absurd (by rw [hf]; simp) (hno k h1)
theorem freeL_none {S : Po} (hno : ∀ j, j < S.size → j ∉ freeL S) : freeL S = [] := by
  cases hf : freeL S with
  | nil => rfl
  | cons k r =>
    have hk : k ∈ freeL S := by rw [hf]; simp
    exact absurd hk (hno k (mem_freeL.1 hk).1)
set_option maxRecDepth 20000 in
set_option maxHeartbeats 4000000 in
theorem dtake_any {S : Po} {rv lv : Value} (w : World) (ok : OkP S) (h : DR w S rv lv) :
    Calls Tryd.prog 16 #[DV S rv lv] w fun e w' => ∃ v, e = .returned (.tuple #[v, .int .i64 (take S).2.1, .int .i64 (take S).2.2]) ∧ DGo w S (take S).1 rv lv v w' := by
  obtain ⟨ar, cr, rfl, _, _⟩ := h.r.shape
  obtain ⟨al, cl, rfl, _, _⟩ := h.l.shape
  have HH := Lib.hid h
  have HOK := Lib.hid ok
  have hp := parts ok
  have hZ := ok.r.size
  have hBB := ok.r.base
  obtain ⟨nr, hnr⟩ : ∃ n, n = S.res.length := ⟨_, rfl⟩
  obtain ⟨nl, hnl⟩ : ∃ n, n = S.L.length := ⟨_, rfl⟩
  have HNR := Lib.hid hnr
  have HNL := Lib.hid hnl
  rw [← hnr, ← hnl] at HH hp ⊢
  have HB2 : Hid (Below w.heap.size w ((w.alloc (.cells #[.int .i64 S.base, .int .i64 (S.size : Int), .slice ar nr cr, .slice al nl cl] 35)).alloc (.cells #[.int .i64 0, .int .i64 0, .slice none 0 0, .slice none 0 0] 35))) := ((Below.refl _ _).alloc (Nat.le_refl _) _).alloc (by simp) _
  have HP2 : Hid (((w.alloc (.cells #[.int .i64 S.base, .int .i64 (S.size : Int), .slice ar nr cr, .slice al nl cl] 35)).alloc (.cells #[.int .i64 0, .int .i64 0, .slice none 0 0, .slice none 0 0] 35)).heap[w.heap.size]? = some (.cells #[.int .i64 S.base, .int .i64 (S.size : Int), .slice ar nr cr, .slice al nl cl] 35 (0, 0))) := heap2_0' _ _ _
  have HZ2 : Hid (((w.alloc (.cells #[.int .i64 S.base, .int .i64 (S.size : Int), .slice ar nr cr, .slice al nl cl] 35)).alloc (.cells #[.int .i64 0, .int .i64 0, .slice none 0 0, .slice none 0 0] 35)).heap[w.heap.size + 1]? = some (.cells #[.int .i64 0, .int .i64 0, .slice none 0 0, .slice none 0 0] 35 (0, 0))) := heap2_1' _ _ _
  have HLL : Hid (nl ≤ 65536) := by show _ ≤ _; omega
  rw [show DV S (.slice ar nr cr) (.slice al nl cl) = .agg #[.int .i64 S.base, .int .i64 (S.size : Int), .slice ar nr cr, .slice al nl cl] from rfl]
  clear h ok hp hnr hnl
  go_enter Tryd.func16, Tryd.ntmps16
  go_wp2_with fail
  generalize ((w.alloc (.cells #[.int .i64 S.base, .int .i64 (S.size : Int), .slice ar nr cr, .slice al nl cl] 35)).alloc (.cells #[.int .i64 0, .int .i64 0, .slice none 0 0, .slice none 0 0] 35)) = w0 at HB2 HP2 HZ2 ⊢
  go_loopw [5] (fun iv wr => ∃ i : Nat, i ≤ S.size ∧ iv = .int .i64 (i : Int) ∧ Hid (Gr w0 wr) ∧ Hid (∀ j, j < i → j ∉ freeL S)) (fun iv _ => S.size - (intOf iv).toNat)
  case atStart => exact ⟨0, Nat.zero_le _, rfl, Gr.refl _, fun j hj => by omega⟩
  case round =>
    obtain ⟨i, hin, rfl, HG, HNO⟩ := hrel
    have HP := Lib.hid (heap_gr HG.out HP2.out)
    have HZZ := Lib.hid (heap_gr HG.out HZ2.out)
    have HBW : Hid (Below w.heap.size w wr) := HB2.out.trans (Below.mono HG.out HB2.out.size)
    obtain ⟨k0, k1, k2, k3⟩ := cells4' HP.out
    by_cases hlt : i < S.size
    · have hlt2 : (i : Int) < (S.size : Int) := by omega
      have x1 : wrap64 (S.base + (i : Int)) = S.base + (i : Int) := wrap64_in (by omega) (by omega)
      have hhas := dhas_any (S.base + (i : Int)) (by omega) wr HOK.out (HH.out.gr HBW.out)
      have HHAS : Hid (Calls Tryd.prog 27 #[.agg #[.int .i64 S.base, .int .i64 (S.size : Int), .slice ar nr cr, .slice al nl cl], .int .i64 (S.base + (i : Int))] wr fun e w' => e = .returned (.bool (has S (S.base + (i : Int)))) ∧ Below wr.heap.size wr w') := hhas
      have hle : i + 1 ≤ S.size := by omega
      clear hhas
      have hiff := mem_freeL (S := S) (i := i)
      by_cases hh : has S (S.base + (i : Int)) = true
      · rw [hh] at HHAS
        have HHT := Lib.hid hh
        clear hh hiff
        by_cases hl : S.base + (i : Int) ∈ S.L
        · have HL := Lib.hid hl
          have HNO2 : Hid (∀ j, j < i + 1 → j ∉ freeL S) := fun j hj => by
            by_cases e : j = i
            · subst e; exact fun hm => (mem_freeL.1 hm).2.2 HL.out
            · exact HNO.out j (by omega)
          clear hl
          go_wp2_with fail
          refine HHAS.out.mono ?_
          rintro e w1 ⟨rfl, hb⟩
          have HI := in_any (S.base + (i : Int)) w1 (HH.out.gr (HBW.out.trans (Below.mono hb HBW.out.size))).l
          rw [decide_eq_true HL.out] at HI
          have HIN := Lib.hid HI
          obtain ⟨k0, k1, k2, k3⟩ := cells4' (heap_gr hb HP.out)
          have HG1 : Hid (Gr w0 w1) := HG.out.trans hb
          clear hb HI HHAS HP HZZ HBW HG
          go_wp2_with fail
          refine HIN.out.mono ?_
          rintro e w' ⟨rfl, rfl⟩
          clear k0 k1 k2 k3 HIN
          go_wp2_with fail
          go_roundw
          case rel =>
            first
              | exact ⟨i + 1, hle, by go_num, HG1, HNO2⟩
              | ((repeat apply Exists.intro); exact ⟨⟨i + 1, hle, by go_num, HG1, HNO2⟩, rfl⟩)
          case measure => simp [intOf]; omega
        · have HL := Lib.hid hl
          have hi : i ∈ freeL S := by
            have := (has_free HHT.out hl).1
            rwa [show (S.base + (i : Int) - S.base).toNat = i by omega] at this
          have HT : Hid (take S = (put S (S.base + (i : Int)), S.base + (i : Int), 0)) := by
            obtain ⟨r, hr⟩ := freeL_first hi HNO.out
            show _ = _
            unfold take
            rw [hr]
          clear hl hi
          go_wp2_with fail
          refine HHAS.out.mono ?_
          rintro e w1 ⟨rfl, hb⟩
          have HB1 : Hid (Below w.heap.size w w1) := HBW.out.trans (Below.mono hb HBW.out.size)
          have HI := in_any (S.base + (i : Int)) w1 (HH.out.gr HB1.out).l
          rw [decide_eq_false HL.out] at HI
          have HIN := Lib.hid HI
          have HPP := Lib.hid (heap_gr hb HP.out)
          have HZ := Lib.hid (heap_gr hb HZZ.out)
          obtain ⟨k0, k1, k2, k3⟩ := cells4' HPP.out
          clear hb HI HHAS HP HZZ HBW HG
          go_wp2_with fail
          refine HIN.out.mono ?_
          rintro e w' ⟨rfl, rfl⟩
          have hc := with_any (S.base + (i : Int)) w1 (HH.out.gr HB1.out).l (by rw [← HNL.out]; exact HLL.out) HL.out
          have HC := Lib.hid hc
          clear hc HIN
          go_wp2_with fail
          refine HC.out.mono ?_
          rintro e w2 ⟨v2, rfl, ho2, hb2⟩
          obtain ⟨A2, C2, rfl, _, _⟩ := (own_rd ho2).shape
          obtain ⟨n2, hn2⟩ : ∃ n, n = (Id.put (S.base + (i : Int)) S.L).length := ⟨_, rfl⟩
          have HN2 := Lib.hid hn2
          rw [← hn2] at ho2 ⊢
          have HO2 := Lib.hid ho2
          have HP3 := Lib.hid (heap_gr hb2 HPP.out)
          have HZ3 := Lib.hid (heap_gr hb2 HZ.out)
          have HS3 : Hid (w.heap.size + 1 < w1.heap.size) := (Array.getElem?_eq_some_iff.1 HZ.out).1
          have HBX : Hid (Below w.heap.size w w2) := HB1.out.trans (Below.mono hb2 HB1.out.size)
          clear ho2 hb2 hn2 HC HPP HZ k0 k1 k2 k3
          go_wp2_with (with_reducible refine wpList_store_led rfl _ _ rfl w.heap.size _ _ _ rfl rfl _ _ _ _ HP3.out ?_)
          intro w3 h3 ho3
          have hp4 : w3.heap[w.heap.size]? = some (.cells #[.int .i64 S.base, .int .i64 (S.size : Int), .slice ar nr cr, .slice A2 n2 C2] 35 (0, 0)) := h3
          have HZ4 : Hid (w3.heap[w.heap.size + 1]? = some (.cells #[.int .i64 0, .int .i64 0, .slice none 0 0, .slice none 0 0] 35 (0, 0))) := (ho3.heap _ (Array.getElem?_eq_some_iff.1 HZ3.out).1 (by omega)).trans HZ3.out
          have HBY : Hid (Below w.heap.size w w3) := ho3.below _ _ (Nat.le_refl _) HBX.out
          have HO3 : Hid (w3.ownsRow w1.heap.size 3 1 (.slice A2 n2 C2) n2 (ints (Id.put (S.base + (i : Int)) S.L))) := ownsRow_only HO2.out ho3 (by have := HS3.out; omega)
          obtain ⟨k0, k1, k2, k3⟩ := cells4' hp4
          clear h3 ho3 hp4 HP3 HZ3 HO2
          go_wp2_with (with_reducible refine wpList_store_doc rfl _ _ rfl (w.heap.size + 1) _ _ _ _ _ _ _ _ rfl rfl HZ4.out ?_)
          intro w4 h5 ho5
          have H5 := Lib.hid h5
          have HBN : Hid (Below w.heap.size w w4) := ho5.below _ _ (by omega) HBY.out
          have HO5 := Lib.hid (ownsRow_only HO3.out ho5 HS3.out)
          clear h5 ho5 k0 k1 k2 k3
          go_wp2
          refine bodyPost_ret (results_cell_tmp_tmp_row (P := Tryd.prog) (fn := Tryd.f16) rfl _ _ (w.heap.size + 1) 35 _ (0, 0) _ rfl H5.out Tryd.underlying35 rfl sizeDT) rfl ?_
          refine ⟨.agg #[.int .i64 S.base, .int .i64 (S.size : Int), .slice ar nr cr, .slice A2 n2 C2], by rw [HT.out]; rfl, .slice A2 n2 C2, by rw [HT.out]; rfl, fun base hbase ho => ?_, HBN.out⟩
          rw [HT.out]
          show World.ownsRow _ _ _ _ _ (Id.put (S.base + (i : Int)) S.L).length _
          rw [← HN2.out]
          exact ownsRow_mono HO5.out (by have := HS3.out; omega)
      · simp only [Bool.not_eq_true] at hh
        have HNO2 : Hid (∀ j, j < i + 1 → j ∉ freeL S) := fun j hj => by
          by_cases e : j = i
          · subst e
            intro hm
            rw [(free_has hm).1] at hh
            cases hh
          · exact HNO.out j (by omega)
        rw [hh] at HHAS
        clear hh hiff
        go_wp2_with fail
        refine HHAS.out.mono ?_
        rintro e w1 ⟨rfl, hb⟩
        have HG1 : Hid (Gr w0 w1) := HG.out.trans hb
        clear hb HHAS HP HZZ HBW HG k0 k1 k2 k3
        go_wp2_with fail
        go_roundw
        case rel =>
          first
            | exact ⟨i + 1, hle, by go_num, HG1, HNO2⟩
            | ((repeat apply Exists.intro); exact ⟨⟨i + 1, hle, by go_num, HG1, HNO2⟩, rfl⟩)
        case measure => simp [intOf]; omega
    · have HT : Hid (take S = (S, 0, 121)) := by
        show _ = _
        unfold take
        rw [freeL_none fun j hj => HNO.out j (by omega)]
      go_wp2_with (with_reducible refine wpList_store_doc rfl _ _ rfl (w.heap.size + 1) _ _ _ _ _ _ _ _ rfl rfl HZZ.out ?_)
      intro w2 h3 ho3
      have H3 := Lib.hid h3
      have HBN : Hid (Below w.heap.size w w2) := ho3.below _ _ (by omega) HBW.out
      have HKE : Hid (∀ k, k < w.heap.size → w2.heap[k]? = w.heap[k]?) := fun k hk => (ho3.heap k (by have := HBW.out.size; omega) (by omega)).trans (HBW.out.block k hk)
      clear h3 ho3 k0 k1 k2 k3
      go_wp2
      refine bodyPost_ret (results_cell_tmp_tmp_row (P := Tryd.prog) (fn := Tryd.f16) rfl _ _ (w.heap.size + 1) 35 _ (0, 0) _ rfl H3.out Tryd.underlying35 rfl sizeDT) rfl ?_
      refine ⟨.agg #[.int .i64 S.base, .int .i64 (S.size : Int), .slice ar nr cr, .slice al nl cl], by rw [HT.out]; rfl, .slice al nl cl, by rw [HT.out]; rfl, fun base hbase ho => ?_, HBN.out⟩
      rw [HT.out]
      exact own_keep ho fun k hk => HKE.out k (own_blk ho k hk).2
end Go.Proofs.YtoemghinolekgaaDoor.Pl
