/-
  New: a pool of a range, all free.
-/
import Derived.Test.YtoemghinolekgaaDoorPlE
import Derived.Deep.DeepCutAuto
import Derived.Test.YtoemghinolekgaaDoorPlN
namespace Go.Proofs.YtoemghinolekgaaDoor.Pl
open Go.RowKit
open Go.Proofs.YtoemghinolekgaaDoor.Id (Tr Tr.refl Tr.gr Tr.only blk own_blk IR IR.cells IR.shape)
set_option linter.unusedVariables false
set_option linter.unusedSimpArgs false

def zerosW (N : Nat) : List Nat := List.replicate N 0
theorem bitW_zeros (N i : Nat) : bitW (zerosW N) i = false := by
  unfold bitW zerosW
  rw [List.getD_eq_getElem?_getD, List.getElem?_replicate]
  split <;> simp
theorem okW_zeros (N : Nat) : okW (zerosW N) := fun x hx => by
  obtain rfl := (List.mem_replicate.1 hx).2
  decide
theorem pm_born {w w1 w2 : World} {B : Int} {v1 v2 : Value} {N : Nat} (hl : Laid w) (hN : N ≤ 1024) (h1 : w1.ownsRow w.heap.size 70 1 v1 N (words (zerosW N))) (n1 : v1 ≠ .slice none 0 0) (b1 : Below w.heap.size w w1)
    (h2 : w2.ownsRow w1.heap.size 70 1 v2 N (words (zerosW N))) (n2 : v2 ≠ .slice none 0 0) (b2 : Below w1.heap.size w1 w2) :
    PmAt (w2.alloc (.cells #[.int .i64 B, v1, v2] 60)) w2.heap.size B ⟨v1, zerosW N, v2, zerosW N⟩ ∧ ∀ k ∈ Fm w2.heap.size ⟨v1, zerosW N, v2, zerosW N⟩, w.heap.size ≤ k := by
  have hal : Gr w2 (w2.alloc (.cells #[.int .i64 B, v1, v2] 60)) := (Gr.refl w2).alloc _
  have hlen : (zerosW N).length = N := by simp [zerosW]
  have o1 := own_blk h1
  have o2 := own_blk h2
  have s1 := b1.size
  have s2 := b2.size
  have l0 := hl.1
  refine ⟨⟨((hl.gr b1).gr b2).gr hal, heap_alloc_last _ _, ?_, ?_, fun k hk hk2 => ?_, by omega⟩, fun k hk => ?_⟩
  · refine ⟨?_, n1, by rw [hlen]; exact hN, okW_zeros N⟩
    show World.ownsRow _ _ _ _ _ (zerosW N).length _
    rw [hlen]
    exact ownsRow_below (ownsRow_below (ownsRow_mono h1 (by omega)) b2) hal
  · refine ⟨?_, n2, by rw [hlen]; exact hN, okW_zeros N⟩
    show World.ownsRow _ _ _ _ _ (zerosW N).length _
    rw [hlen]
    exact ownsRow_below (ownsRow_mono h2 (by omega)) hal
  · have := (o1 k hk).2
    have := (o2 k hk2).1
    omega
  · simp only [Fm, List.mem_cons, List.mem_append] at hk
    rcases hk with rfl | hk | hk
    · omega
    · exact (o1 k hk).1
    · have := (o2 k hk).1; omega
theorem builtP (b : Int) (a1 : Option Addr) (n1 c1 : Nat) (a2 : Option Addr) (n2 c2 : Nat) : Tryd.prog.built 60 [(0, .int .i64 b), (1, .slice a1 n1 c1), (2, .slice a2 n2 c2)] = some #[.int .i64 b, .slice a1 n1 c1, .slice a2 n2 c2] := by kernel_rfl
theorem new_no (b z : Int) {v : Value} {l : List Int} (wb : -9223372036854775808 ≤ b ∧ b ≤ 9223372036854775807) (wz : -9223372036854775808 ≤ z ∧ z ≤ 9223372036854775807) (w : World) (h : IR w v l) (hno : okB b z l = false) :
    Calls Tryd.prog 10 #[.agg #[.int .i64 b, .int .i64 z, v]] w fun e w' => e = .returned (.tuple #[.pointer none, .int .i64 120]) ∧ Below w.heap.size w w' := by
  obtain ⟨a, c, rfl, hc1, hc2⟩ := h.shape
  have HB : Hid (Below w.heap.size w (w.alloc (.cells #[.int .i64 b, .int .i64 z, .slice a l.length c] 24))) := (Below.refl _ _).alloc (Nat.le_refl _) _
  have hck := check_any b z wb wz (w.alloc (.cells #[.int .i64 b, .int .i64 z, .slice a l.length c] 24)) (l := l) (v := .slice a l.length c) (Rd.below h HB.out)
  rw [hno] at hck
  have HCK := Lib.hid hck
  clear h hc1 hc2 hck wb wz hno
  go_enter Tryd.func10, Tryd.ntmps10
  go_wp2_with fail
  refine HCK.out.mono ?_
  rintro e w1 ⟨rfl, hb⟩
  have HB2 : Hid (Below w.heap.size w w1) := HB.out.trans (Below.mono hb HB.out.size)
  clear hb
  go_wp2
  go_ret2
  exact ⟨rfl, HB2.out⟩
/-- Between two rounds of New. -/
structure NI (w : World) (g : Nat) (b : Int) (fv lv : Value) (fr : List Nat) (N : Nat) (rc : Array Value) (wr : World) : Prop where
  pm : PmAt wr g b ⟨fv, fr, lv, zerosW N⟩
  off : ∀ k ∈ Fm g ⟨fv, fr, lv, zerosW N⟩, w.heap.size < k
  low : Below w.heap.size w wr
  box : wr.heap[w.heap.size]? = some (.cells rc 24 (0, 0))
  len : fr.length = N
theorem NI.turn {w : World} {g : Nat} {b : Int} {fv lv : Value} {fr ws : List Nat} {N : Nat} {rc : Array Value} {wr wn : World} (h : NI w g b fv lv fr N rc wr) (hw : WAt wn fv ws) (ht : Tr (blk fv) wr wn) (hl : ws.length = N) : NI w g b fv lv ws N rc wn :=
  ⟨h.pm.setF hw ht, h.off, Id.Tr.below h.low h.low.size ht (fun k hk => Nat.le_of_lt (h.off k (Fm.fv hk))), ht.heap h.box (fun hk => by have := h.off _ (Fm.fv hk); omega), hl⟩
set_option maxRecDepth 20000 in
set_option maxHeartbeats 4000000 in
theorem new_yes (b : Int) (Z : Nat) {v : Value} {l : List Int} (w : World) (hl : Laid w) (h : IR w v l) (hok : okR b (Z : Int) l) :
    Calls Tryd.prog 10 #[.agg #[.int .i64 b, .int .i64 (Z : Int), v]] w fun e w' => ∃ g, e = .returned (.tuple #[.pointer (some ⟨g, 0, none⟩), .int .i64 0]) ∧
      ∃ m, PoAt w' g m (born b Z l) ∧ (∀ k ∈ Fm g m, w.heap.size ≤ k) ∧ Below w.heap.size w w' := by
  obtain ⟨a, c, rfl, hc1, hc2⟩ := h.shape
  have hz := hok.size
  have hbb := hok.base
  have HOK := Lib.hid hok
  have HL := Lib.hid hl
  have HI := Lib.hid h
  have hck := check_any b (Z : Int) (by omega) (by omega) (w.alloc (.cells #[.int .i64 b, .int .i64 (Z : Int), .slice a l.length c] 24)) (l := l) (v := .slice a l.length c) (Rd.below h ((Below.refl _ _).alloc (Nat.le_refl _) _))
  rw [show okB b (Z : Int) l = true from okB_iff.2 hok, if_pos rfl] at hck
  obtain ⟨n, hn⟩ : ∃ n, n = l.length := ⟨_, rfl⟩
  have HN := Lib.hid hn
  rw [← hn] at HI hc1 hck ⊢
  have HB1 : Hid (Below w.heap.size w (w.alloc (.cells #[.int .i64 b, .int .i64 (Z : Int), .slice a n c] 24))) := (Below.refl _ _).alloc (Nat.le_refl _) _
  have HG1 : Hid ((w.alloc (.cells #[.int .i64 b, .int .i64 (Z : Int), .slice a n c] 24)).heap[w.heap.size]? = some (.cells #[.int .i64 b, .int .i64 (Z : Int), .slice a n c] 24 (0, 0))) := heap_alloc_last _ _
  have HCK := Lib.hid hck
  have hn63 : (n : Int) ≤ 65536 := by
    have h1 := born_ok hok
    have := parts h1
    have e : (born b Z l).res = l := rfl
    rw [e] at this
    have e2 : (born b Z l).size = Z := rfl
    rw [e2] at this
    omega
  have HNP := Lib.hid (fun w' => newPlaces_any Z (by omega) w')
  obtain ⟨N, hNe⟩ : ∃ N, N = (Z + 63) / 64 := ⟨_, rfl⟩
  rw [← hNe] at HNP
  have HNE := Lib.hid hNe
  have HN1 : Hid (N ≤ 1024) := by show _ ≤ _; omega
  have HZ : Hid (Z ≤ 65536) := by show _ ≤ _; omega
  clear h hck hn hc1 hc2 hok hl hNe
  go_enter Tryd.func10, Tryd.ntmps10
  go_wp2_with fail
  refine HCK.out.mono ?_
  rintro e w1 ⟨rfl, hb⟩
  have HB2 : Hid (Below w.heap.size w w1) := HB1.out.trans (Below.mono hb HB1.out.size)
  have HG2 := Lib.hid (heap_gr hb HG1.out)
  clear hb HCK HB1 HG1
  go_upto_region 4 with fail
  have HC : Hid (Below w.heap.size w w1.drew) := HB2.out.drew
  have HGC : Hid (w1.drew.heap[w.heap.size]? = some (.cells #[.int .i64 b, .int .i64 (Z : Int), .slice a n c] 24 (0, 0))) := HG2.out
  refine wp_region_G 11 Gr (by kernel_rfl) ?_
  generalize w1.drew = wc at HC HGC ⊢
  -- 0: slot 14
  refine wpG_take preGr (i := 0) (v := ?_) (by kernel_rfl) (some 14) (by kernel_rfl) rfl (by kernel_rfl) (by kernel_rfl) (by kernel_rfl) (fun _ _ _ h => h) (by rfl) (fun w' hw' => ?_) rfl ?_
  rotate_left
  · try (obtain ⟨k0, k1, k2⟩ := cells3' (heap_gr hw' HGC.out))
    go_simp
    with_reducible rfl
  simp only [Act.put, List.setIfInBounds_toArray, List.set_cons_zero, List.set_cons_succ]
  -- 1: slot 15
  refine wpG_take preGr (i := 1) (v := ?_) (by kernel_rfl) (some 15) (by kernel_rfl) rfl (by kernel_rfl) (by kernel_rfl) (by kernel_rfl) (fun _ _ _ h => h) (by rfl) (fun w' hw' => ?_) rfl ?_
  rotate_left
  · try (obtain ⟨k0, k1, k2⟩ := cells3' (heap_gr hw' HGC.out))
    go_simp
    with_reducible rfl
  simp only [Act.put, List.setIfInBounds_toArray, List.set_cons_zero, List.set_cons_succ]
  -- 2: slot 16
  refine wpG_take preGr (i := 2) (v := ?_) (by kernel_rfl) (some 16) (by kernel_rfl) rfl (by kernel_rfl) (by kernel_rfl) (by kernel_rfl) (fun _ _ _ h => h) (by rfl) (fun w' hw' => ?_) rfl ?_
  rotate_left
  · try (obtain ⟨k0, k1, k2⟩ := cells3' (heap_gr hw' HGC.out))
    go_simp
    with_reducible rfl
  simp only [Act.put, List.setIfInBounds_toArray, List.set_cons_zero, List.set_cons_succ]
  -- 3: slot 17
  refine wpG_take preGr (i := 3) (v := ?_) (by kernel_rfl) (some 17) (by kernel_rfl) rfl (by kernel_rfl) (by kernel_rfl) (by kernel_rfl) (fun _ _ _ h => h) (by rfl) (fun w' hw' => ?_) rfl ?_
  rotate_left
  · try (obtain ⟨k0, k1, k2⟩ := cells3' (heap_gr hw' HGC.out))
    go_simp
    with_reducible rfl
  simp only [Act.put, List.setIfInBounds_toArray, List.set_cons_zero, List.set_cons_succ]
  -- 5: slot 19
  refine wpG_take preGr (i := 5) (v := ?_) (by kernel_rfl) (some 19) (by kernel_rfl) rfl (by kernel_rfl) (by kernel_rfl) (by kernel_rfl) (fun _ _ _ h => h) (by rfl) (fun w' hw' => ?_) rfl ?_
  rotate_left
  · try (obtain ⟨k0, k1, k2⟩ := cells3' (heap_gr hw' HGC.out))
    go_simp
    with_reducible rfl
  simp only [Act.put, List.setIfInBounds_toArray, List.set_cons_zero, List.set_cons_succ]
  -- 6: slot 20
  refine wpG_take preGr (i := 6) (v := ?_) (by kernel_rfl) (some 20) (by kernel_rfl) rfl (by kernel_rfl) (by kernel_rfl) (by kernel_rfl) (fun _ _ _ h => h) (by rfl) (fun w' hw' => ?_) rfl ?_
  rotate_left
  · try (obtain ⟨k0, k1, k2⟩ := cells3' (heap_gr hw' HGC.out))
    go_simp
    with_reducible rfl
  simp only [Act.put, List.setIfInBounds_toArray, List.set_cons_zero, List.set_cons_succ]
  refine wpG_one (i := 4) rfl (by kernel_rfl) (by rfl) ?_
  go_simp
  refine (HNP.out wc).mono ?_
  rintro e w2 ⟨v1, rfl, hne1, ho1, hb1⟩
  refine ⟨hb1, ?_⟩
  obtain ⟨a1, c1, rfl, _, _⟩ := (own_rd ho1).shape
  have HNE1 := Lib.hid hne1
  have HO1 : Hid (w2.ownsRow wc.heap.size 70 1 (.slice a1 N c1) N (words (zerosW N))) := ho1
  have HBA := Lib.hid hb1
  have HGC' := Lib.hid (heap_gr hb1 HGC.out)
  have HLC := Lib.hid (HL.out.gr HC.out)
  have HSC : Hid (w.heap.size < wc.heap.size) := (Array.getElem?_eq_some_iff.1 HGC.out).1
  have HC' : Hid (Below w.heap.size w w2) := HC.out.trans (Below.mono hb1 HC.out.size)
  clear hne1 ho1 hb1 HGC HC
  have HGC := HGC'
  have HC := HC'
  clear HGC' HC'
  obtain ⟨w0, hw0⟩ : ∃ x, x = wc := ⟨_, rfl⟩
  rw [← hw0] at HO1 HBA HLC HSC
  clear hw0 wc
  obtain ⟨wc, hwc⟩ : ∃ x, x = w2 := ⟨_, rfl⟩
  subst hwc
  try simp only [Act.put, List.setIfInBounds_toArray, List.set_cons_zero, List.set_cons_succ]
  refine wpG_one (i := 7) rfl (by kernel_rfl) (by rfl) ?_
  go_simp
  refine (HNP.out wc).mono ?_
  rintro e w3 ⟨v2, rfl, hne2, ho2, hb2⟩
  refine ⟨hb2, ?_⟩
  obtain ⟨a2, c2, rfl, _, _⟩ := (own_rd ho2).shape
  have HNE2 := Lib.hid hne2
  have hpm := pm_born (B := b) HLC.out HN1.out HO1.out HNE1.out HBA.out ho2 hne2 hb2
  have HPM := Lib.hid hpm
  have HGC' := Lib.hid (heap_gr hb2 HGC.out)
  have HC' : Hid (Below w.heap.size w w3) := HC.out.trans (Below.mono hb2 HC.out.size)
  clear hne2 ho2 hb2 hpm HGC HC HBA HO1
  have HGC := HGC'
  have HC := HC'
  clear HGC' HC'
  obtain ⟨wc, hwc⟩ : ∃ x, x = w3 := ⟨_, rfl⟩
  subst hwc
  try simp only [Act.put, List.setIfInBounds_toArray, List.set_cons_zero, List.set_cons_succ]
  -- 8: slot 22
  refine wpG_take preGr (i := 8) (v := ?_) (by kernel_rfl) (some 22) (by kernel_rfl) rfl (by kernel_rfl) (by kernel_rfl) (by kernel_rfl) (fun _ _ _ h => h) (by rfl) (fun w' hw' => ?_) rfl ?_
  rotate_left
  · refine Eq.trans (build_run (P := Tryd.prog) 60 [(0, .tmp 15), (1, .tmp 18), (2, .tmp 21)] ?_ #[.int .i64 b, .slice a1 N c1, .slice a2 N c2] ?_) ?_
    · rfl
    · exact builtP b a1 N c1 a2 N c2
    · with_reducible rfl
  simp only [Act.put, List.setIfInBounds_toArray, List.set_cons_zero, List.set_cons_succ]
  refine wpG_one (i := 9) rfl (by kernel_rfl) (by rfl) ?_
  go_simp
  refine ⟨(Gr.refl _).alloc _, ?_⟩
  try simp only [Act.put, List.setIfInBounds_toArray, List.set_cons_zero, List.set_cons_succ]
  -- 10: slot 5
  refine wpG_take preGr (i := 10) (v := ?_) (by kernel_rfl) (some 5) (by kernel_rfl) rfl (by kernel_rfl) (by kernel_rfl) (by kernel_rfl) (fun _ _ _ h => h) (by rfl) (fun w' hw' => ?_) rfl ?_
  rotate_left
  · try (obtain ⟨k0, k1, k2⟩ := cells3' (heap_gr hw' HGC.out))
    go_simp
    with_reducible rfl
  simp only [Act.put, List.setIfInBounds_toArray, List.set_cons_zero, List.set_cons_succ]
  refine wpG_done (by kernel_rfl) ?_ _
  obtain ⟨hp1, hp2⟩ := HPM.out
  have H0 : Hid (NI w wc.heap.size b (.slice a1 N c1) (.slice a2 N c2) (zerosW N) N #[.int .i64 b, .int .i64 (Z : Int), .slice a n c] (wc.alloc (.cells #[.int .i64 b, .slice a1 N c1, .slice a2 N c2] 60))) :=
    ⟨hp1, fun k hk => Nat.lt_of_lt_of_le HSC.out (hp2 k hk), HC.out.alloc HC.out.size _, heap_gr ((Gr.refl _).alloc _) HGC.out, by simp [zerosW]⟩
  obtain ⟨g, hg⟩ : ∃ g, g = wc.heap.size := ⟨_, rfl⟩
  rw [← hg] at H0 ⊢
  generalize wc.alloc (.cells #[.int .i64 b, .slice a1 N c1, .slice a2 N c2] 60) = wd at H0 ⊢
  clear hp1 hp2 HPM HGC HC hg HNE1 HNE2 HLC HSC HNP
  have hzn : (Z : Int) ≤ 65536 := hz.2
  obtain ⟨k0, k1, k2⟩ := cells3' H0.out.box
  go_wp2_with fail
  clear k0 k1 k2
  go_loopw [26] (fun iv wr => ∃ (i : Nat) (fr : List Nat), i ≤ Z ∧ iv = .int .i64 (i : Int) ∧ Hid (NI w g b (.slice a1 N c1) (.slice a2 N c2) fr N #[.int .i64 b, .int .i64 (Z : Int), .slice a n c] wr) ∧ Hid (∀ j, bitW fr j = decide (j < i))) (fun iv _ => Z - (intOf iv).toNat)
  case atStart => exact ⟨0, zerosW N, Nat.zero_le _, rfl, H0, fun j => by rw [bitW_zeros]; simp⟩
  case round =>
    obtain ⟨i, fr, hin, rfl, HNI, HBI⟩ := hrel
    by_cases hlt : i < Z
    · have HPU := Lib.hid (put_any i (by rw [HNI.out.len, HNE.out]; omega) wr HNI.out.pm.fo)
      have k1 := (cells3' HNI.out.pm.row).2.1
      have HFL : Hid (fr.length = N) := HNI.out.len
      have hle : i + 1 ≤ Z := by omega
      have hput := fun j => bitW_put (ws := fr) (i := i) (by rw [HNI.out.len, HNE.out]; omega) j
      have HBI2 : Hid (∀ j, bitW (putW fr i) j = decide (j < i + 1)) := by
        intro j
        rw [hput, HBI.out, Bool.eq_iff_iff]
        simp only [Bool.or_eq_true, decide_eq_true_eq]
        omega
      clear hput HBI H0
      go_wp2_with fail
      refine HPU.out.mono ?_
      rintro e wn ⟨rfl, hw, ht⟩
      have HN2 := Lib.hid (HNI.out.turn hw ht (by rw [putW_length]; exact HFL.out))
      clear hw ht HPU HNI k1
      go_wp2_with fail
      go_roundw
      case rel =>
        first
          | exact ⟨i + 1, putW fr i, hle, by go_num, HN2, HBI2⟩
          | ((repeat apply Exists.intro); exact ⟨⟨i + 1, putW fr i, hle, by go_num, HN2, HBI2⟩, rfl⟩)
      case measure => simp [intOf]; omega
    · obtain rfl : i = Z := by omega
      obtain ⟨wA, hwA⟩ : ∃ x, x = wr := ⟨_, rfl⟩
      subst hwA
      obtain ⟨k0, k1, k2⟩ := cells3' HNI.out.box
      go_wp2_with fail
      clear k0 k1 k2
      go_loopw [39] (fun iv wr => ∃ (k : Nat) (fr : List Nat), k ≤ n ∧ iv = .int .i64 (k : Int) ∧ Hid (NI w g b (.slice a1 N c1) (.slice a2 N c2) fr N #[.int .i64 b, .int .i64 (i : Int), .slice a n c] wr) ∧ Hid (∀ j : Nat, bitW fr j = decide (j < i ∧ (j : Int) ∉ l.take k))) (fun iv _ => n - (intOf iv).toNat)
      case atStart => exact ⟨0, fr, Nat.zero_le _, rfl, HNI, fun j => by rw [HBI.out]; simp⟩
      case round =>
        clear HNI HBI fr
        obtain ⟨k, fr, hkn, rfl, HNI, HBI⟩ := hrel
        by_cases hlt2 : k < n
        · have hil : k < l.length := by rw [← HN.out]; exact hlt2
          have h0 : IR wr (.slice a n c) l := Rd.below HI.out HNI.out.low
          rw [HN.out] at h0
          obtain ⟨bb, o, ea, _, hcel⟩ := IR.cells h0 (by omega)
          subst ea
          have hc := hcel k hil
          have hin2 := HOK.out.isin l[k] (List.getElem_mem hil)
          have htk : l.take (k + 1) = l.take k ++ [l[k]] := by rw [List.take_add_one, List.getElem?_eq_getElem hil]; rfl
          obtain ⟨x, hx⟩ : ∃ x, x = l[k] := ⟨_, rfl⟩
          rw [← hx] at hc hin2 htk
          obtain ⟨p, hp⟩ : ∃ p : Nat, (p : Int) = x := ⟨x.toNat, by omega⟩
          have HPU := Lib.hid (drop_any p (by rw [HNI.out.len, HNE.out]; omega) wr HNI.out.pm.fo)
          rw [hp] at HPU
          have k1 := (cells3' HNI.out.pm.row).2.1
          have HFL : Hid (fr.length = N) := HNI.out.len
          have hle : k + 1 ≤ n := by omega
          have hdr := fun j => bitW_drop (ws := fr) (i := p) (by rw [HNI.out.len, HNE.out]; omega) j
          have HBI2 : Hid (∀ j : Nat, bitW (dropW fr p) j = decide (j < i ∧ (j : Int) ∉ l.take (k + 1))) := by
            intro j
            rw [hdr, HBI.out, htk, Bool.eq_iff_iff]
            simp only [Bool.and_eq_true, Bool.not_eq_true', decide_eq_true_eq, decide_eq_false_iff_not, List.mem_append, List.mem_singleton, not_or]
            constructor
            · rintro ⟨⟨h1, h2⟩, h3⟩
              exact ⟨h1, h2, by omega⟩
            · rintro ⟨h1, h2, h3⟩
              exact ⟨⟨h1, h2⟩, by omega⟩
          clear hdr HBI h0 hcel hin2 htk hx hp
          go_wp2_with fail
          refine HPU.out.mono ?_
          rintro e wn ⟨rfl, hw, ht⟩
          have HN2 := Lib.hid (HNI.out.turn hw ht (by rw [dropW_length]; exact HFL.out))
          clear hw ht HPU HNI k1
          go_wp2_with fail
          go_roundw
          case rel =>
            first
              | exact ⟨k + 1, dropW fr p, hle, by go_num, HN2, HBI2⟩
              | ((repeat apply Exists.intro); exact ⟨⟨k + 1, dropW fr p, hle, by go_num, HN2, HBI2⟩, rfl⟩)
          case measure => simp [intOf]; omega
        · go_wp2_with fail
          go_ret2
          have hni := HNI.out
          refine ⟨g, rfl, _, ⟨hni.pm, born_ok HOK.out, ?_⟩, fun q hq => Nat.le_of_lt (hni.off q hq), hni.low⟩
          refine ⟨hni.len.trans HNE.out, (by simp [zerosW] : (zerosW N).length = N).trans HNE.out, fun j => ?_, fun j => ?_⟩
          · have h1 := HBI.out j
            rw [List.take_of_length_le (by have := HN.out; omega)] at h1
            show bitW fr j = _
            rw [h1, Bool.eq_iff_iff]
            simp only [decide_eq_true_eq]
            rw [mem_freeL]
            simp [born]
          · show bitW (zerosW N) j = _
            rw [bitW_zeros, eq_comm, decide_eq_false_iff_not, mem_leasedL]
            simp [born]
end Go.Proofs.YtoemghinolekgaaDoor.Pl
