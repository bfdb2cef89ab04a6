/-
  What was taken, and not given, is not taken again; where ticks do not fall, a number that was given is not taken before it rested (the first 120 calls; conciergelaw11.IdsQuiet answers true). No condition.
-/
import Derived.Test.YtpafcabcnkmadaaIdZ
import Derived.Test.YtpafcabcnkmadaaOpenI
import Derived.ProofKit
import Derived.OpenShut
import Derived.ChangeOld
namespace Go.Proofs.Ytpafcabcnkmadaa.idsQuiet
open Go.ChangeShapes Go.WideShapes Go.ChangeAt Go.RowKit
open Go.Proofs.Ytpafcabcnkmadaa.Id
set_option linter.unusedVariables false
set_option linter.unusedSimpArgs false

def gl (n : Nat) (G : Int → Int) : List Int := (List.range (n + 1)).map fun i : Nat => G (i : Int)
def ul (n : Nat) (u : List Int) : List Bool := (List.range (n + 1)).map fun i : Nat => decide ((i : Int) ∈ u)
theorem gl_length (n : Nat) (G : Int → Int) : (gl n G).length = n + 1 := by simp [gl]
theorem ul_length (n : Nat) (u : List Int) : (ul n u).length = n + 1 := by simp [ul]
theorem gl_set (n i : Nat) (G : Int → Int) (t : Int) : (gl n G).set i t = gl n (fun x => if x = (i : Int) then t else G x) := by
  apply List.ext_getElem
  · rw [List.length_set, gl_length, gl_length]
  · intro j h1 h2
    rw [List.getElem_set]
    by_cases e : i = j
    · subst e; simp [gl]
    · rw [if_neg e]
      have : ¬ (j : Int) = (i : Int) := by omega
      simp [gl, this]
theorem ul_add (n i : Nat) (u : List Int) : (ul n u).set i true = ul n (u ++ [(i : Int)]) := by
  apply List.ext_getElem
  · rw [List.length_set, ul_length, ul_length]
  · intro j h1 h2
    rw [List.getElem_set]
    by_cases e : i = j
    · subst e; simp [ul]
    · rw [if_neg e]
      have : ¬ (j : Int) = (i : Int) := by omega
      simp [ul, this]
theorem ul_del (n i : Nat) (u : List Int) (hn : u.Nodup) : (ul n u).set i false = ul n (u.erase (i : Int)) := by
  apply List.ext_getElem
  · rw [List.length_set, ul_length, ul_length]
  · intro j h1 h2
    rw [List.getElem_set]
    by_cases e : i = j
    · subst e; simp [ul, hn.mem_erase_iff]
    · rw [if_neg e]
      have : ¬ (j : Int) = (i : Int) := by omega
      simp [ul, hn.mem_erase_iff, this]
/-- How it stands: the allocator, when each was given, which are taken. -/
structure QS (W : World) (g bg bt n : Nat) (q : Int) (m : Am) (w : World) (S : Al) (tk : Int) (G : Int → Int) : Prop where
  la : LA W g m w S
  hg : w.heap[bg]? = some (.cells (ints (gl n G)).toArray 3 (0, 0))
  ht : w.heap[bt]? = some (.cells (bools (ul n S.used)).toArray 4 (0, 0))
  ng : bg ∉ Fm g m
  nt : bt ∉ Fm g m
  ne : bg ≠ bt
  lg : W.heap.size ≤ bg
  lt : W.heap.size ≤ bt
  qt : Qt S tk G
  low : S.low = 1
  high : S.high = (n : Int)
  quiet : S.quiet = q
  gb : ∀ x, -1099511627776 ≤ G x
theorem QS.cells {W w : World} {g bg bt n : Nat} {q tk : Int} {m : Am} {S : Al} {G : Int → Int} (h : QS W g bg bt n q m w S tk G) {i : Nat} (hi : i ≤ n) : w.cell? ⟨bg, i, none⟩ = some (.int .i64 (G (i : Int))) ∧ w.cell? ⟨bt, i, none⟩ = some (.bool (decide ((i : Int) ∈ S.used))) := by
  constructor
  · rw [cell_of_row _ _ _ _ _ _ h.hg]; simp [ints, gl, List.getElem?_map, List.getElem?_range (show i < n + 1 by omega)]
  · rw [cell_of_row _ _ _ _ _ _ h.ht]; simp [bools, ul, List.getElem?_map, List.getElem?_range (show i < n + 1 by omega)]
theorem QS.gr {W w w' : World} {g bg bt n : Nat} {q tk : Int} {m : Am} {S : Al} {G : Int → Int} (h : QS W g bg bt n q m w S tk G) (hb : Below w.heap.size w w') : QS W g bg bt n q m w' S tk G :=
  ⟨h.la.gr hb, heap_below h.hg hb, heap_below h.ht hb, h.ng, h.nt, h.ne, h.lg, h.lt, h.qt, h.low, h.high, h.quiet, h.gb⟩
theorem QS.later {W w : World} {g bg bt n : Nat} {q tk t2 : Int} {m : Am} {S : Al} {G : Int → Int} (h : QS W g bg bt n q m w S tk G) (ht : tk ≤ t2) : QS W g bg bt n q m w S t2 G :=
  ⟨h.la, h.hg, h.ht, h.ng, h.nt, h.ne, h.lg, h.lt, h.qt.later ht, h.low, h.high, h.quiet, h.gb⟩
theorem QS.kept {W w w' : World} {g bg bt n : Nat} {q tk : Int} {m : Am} {S : Al} {G : Int → Int} (h : QS W g bg bt n q m w S tk G) {m' : Am} (hs : Stp g m m' w w') :
    w'.heap[bg]? = some (.cells (ints (gl n G)).toArray 3 (0, 0)) ∧ w'.heap[bt]? = some (.cells (bools (ul n S.used)).toArray 4 (0, 0)) ∧ bg ∉ Fm g m' ∧ bt ∉ Fm g m' := by
  have h1 := (Array.getElem?_eq_some_iff.1 h.hg).1
  have h2 := (Array.getElem?_eq_some_iff.1 h.ht).1
  refine ⟨(hs.tr.block bg h1 h.ng).trans h.hg, (hs.tr.block bt h2 h.nt).trans h.ht, fun hk => ?_, fun hk => ?_⟩
  · rcases hs.blk _ hk with h3 | h3
    · exact h.ng h3
    · omega
  · rcases hs.blk _ hk with h3 | h3
    · exact h.nt h3
    · omega
theorem QS.only {W w w' : World} {g m} {b : Nat} {S : Al} (h : LA W g m w S) (ho : Only b w w') (hb : b ∉ Fm g m) (hl : W.heap.size ≤ b) : LA W g m w' S :=
  ⟨⟨h.al.am.keep fun k hk => ho.heap k (h.al.am.lt k hk) fun e => hb (e ▸ hk), h.al.sh, h.al.ok, h.al.sorted⟩, ho.below _ _ hl h.low, h.own⟩
set_option maxRecDepth 20000 in
set_option maxHeartbeats 8000000 in
theorem walk (W : World) (a0 : Int) (w0 : (Lit.int .u8 a0).wf = true) (a1 : Int) (w1 : (Lit.int .u8 a1).wf = true) (a2 : Option Addr) (n2 c2 : Nat) (qs : List Oq) (hq : OqR W (.slice a2 n2 c2) n2 qs) :
    Calls Try.prog 5 #[.int .u8 a0, .int .u8 a1, .slice a2 n2 c2] W fun e w' => e = .returned (.bool true) ∧ Below W.heap.size W w' := by
  obtain ⟨i0, hi0, hz0, hz1, hz2⟩ := info_parts infoI
  obtain ⟨i1, hi1, hy0, hy1, hy2⟩ := info_parts infoB
  have h0 : 0 ≤ a0 ∧ a0 ≤ 255 := by simpa [Lit.wf, IntKind.min, IntKind.max, IntKind.signed, IntKind.bits] using w0
  have h1 : 0 ≤ a1 ∧ a1 ≤ 255 := by simpa [Lit.wf, IntKind.min, IntKind.max, IntKind.signed, IntKind.bits] using w1
  obtain ⟨n, hn⟩ : ∃ n : Nat, 1 + a0 % 12 = (n : Int) := ⟨(1 + a0 % 12).toNat, by omega⟩
  have hnb : 1 ≤ n ∧ n ≤ 12 := by omega
  have hset : okSet 1 (n : Int) a1 := by unfold okSet topT; omega
  have X1 : Hid (wrap64 a1 = a1) := wrap64_in (by omega) (by omega)
  have X0 : Hid (wrap64 a0 = a0) := wrap64_in (by omega) (by omega)
  have X2 : Hid (a0.tmod 12 = a0 % 12) := Int.tmod_eq_emod_of_nonneg h0.1
  have HNE := Lib.hid hn
  have HL : Hid (0 ≤ a1 ∧ a1 ≤ 255 ∧ 1 ≤ n ∧ n ≤ 12) := ⟨h1.1, h1.2, hnb.1, hnb.2⟩
  have HA := Lib.hid (fun w => awake_any w)
  have HN := Lib.hid (fun w hb => new_la W 1 (n : Int) a1 w hset hb)
  have HQ := Lib.hid hq
  have HQL := Lib.hid hq.len
  have hn63 : (n2 : Int) ≤ 9223372036854775807 := by
    obtain ⟨b, c, es0, hcc, hcm⟩ := hq.rd.shape
    simp only [Value.slice.injEq] at es0
    obtain ⟨_, _, rfl⟩ := es0
    unfold maxLen at hcm
    omega
  have HN63 := Lib.hid hn63
  have HB2 : Hid (i0.bytes * (n + 1) ≤ 281474976710656) := by show _ ≤ _; rw [hz2]; omega
  have HB3 : Hid (n + 1 ≤ maxLen) := by show _ ≤ _; unfold maxLen; omega
  have HC2 : Hid (i1.bytes * (n + 1) ≤ 281474976710656) := by show _ ≤ _; rw [hy2]; omega
  have HNN : Hid ((n : Int) + 1 = ((n + 1 : Nat) : Int)) := by show _ = _; omega
  clear w0 w1 hn hq hn63 h0
  have x0 := X0.out
  have x1 := X1.out
  have x2 := X2.out
  go_enter Try.func5, Try.ntmps5
  go_wp2_with fail
  refine (HA.out _).mono ?_
  rintro e w1 ⟨rfl, hb⟩
  have HB := Lib.hid hb
  clear hb HA
  go_wp2_with fail
  try rw [HNE.out]
  clear x0 x1 x2 X0 X2
  refine (HN.out _ HB.out).mono ?_
  rintro e w2 ⟨g, rfl, m, hla, _⟩
  have HLA := Lib.hid hla
  clear hla HN HB hset
  go_wp2_with (with_reducible refine wpList_make_any rfl (.tmp 38) (.tmp 38) 41 rfl 3 i0 (.int .i64 0) Try.underlying41 hi0 hz0 .i64 .i64 ((n : Int) + 1) ((n : Int) + 1) (n + 1) rfl rfl HNN.out HNN.out HB2.out HB3.out ?_)
  intro w3 h3 hb3
  obtain ⟨bg, hbg⟩ : ∃ b, b = w2.heap.size := ⟨_, rfl⟩
  rw [← hbg] at h3 ⊢
  have HG3 : Hid (w3.heap[bg]? = some (.cells (ints (List.replicate (n + 1) 0)).toArray 3 (0, 0))) := by
    show _ = _
    rw [← made_int, Array.toArray_toList]
    first
      | exact h3
      | simpa [Value.cells] using h3
  have HLA3 := Lib.hid (HLA.out.gr hb3)
  have HNG : Hid (bg ∉ Fm g m ∧ W.heap.size ≤ bg) := by
    refine ⟨fun hk => ?_, ?_⟩
    · have := HLA.out.al.am.lt bg hk; omega
    · rw [hbg]; exact HLA.out.low.size
  clear h3 hb3 hbg
  go_wp2_with (with_reducible refine wpList_make_any rfl (.tmp 41) (.tmp 41) 42 rfl 4 i1 (.bool false) Try.underlying42 hi1 hy0 .i64 .i64 ((n : Int) + 1) ((n : Int) + 1) (n + 1) rfl rfl HNN.out HNN.out HC2.out HB3.out ?_)
  intro w4 h4 hb4
  obtain ⟨bt, hbt⟩ : ∃ b, b = w3.heap.size := ⟨_, rfl⟩
  rw [← hbt] at h4 ⊢
  have HT4 : Hid (w4.heap[bt]? = some (.cells (bools (List.replicate (n + 1) false)).toArray 4 (0, 0))) := by
    show _ = _
    rw [← made_bool, Array.toArray_toList]
    first
      | exact h4
      | simpa [Value.cells] using h4
  have HLA4 := Lib.hid (HLA3.out.gr hb4)
  have HG4 := Lib.hid (heap_below HG3.out hb4)
  have HNT : Hid (bt ∉ Fm g m ∧ W.heap.size ≤ bt ∧ bg ≠ bt) := by
    refine ⟨fun hk => ?_, ?_, ?_⟩
    · have := HLA3.out.al.am.lt bt hk; omega
    · rw [hbt]; exact HLA3.out.low.size
    · have := (Array.getElem?_eq_some_iff.1 HG3.out).1; omega
  clear h4 hb4 hbt HLA HLA3 HG3 HB2 HC2 HB3
  have hnb : 1 ≤ n ∧ n ≤ 12 := HL.out.2.2
  go_wp2_with fail
  go_loopw [12] (fun iv wr => ∃ (i : Nat) (l : List Int), i ≤ n + 1 ∧ iv = .int .i64 (i : Int) ∧ LA W g m wr (born 1 (n : Int) a1) ∧ wr.heap[bg]? = some (.cells (ints l).toArray 3 (0, 0)) ∧ l.length = n + 1 ∧ (∀ k, (hk : k < i) → l[k]? = some (-1099511627776)) ∧ wr.heap[bt]? = some (.cells (bools (List.replicate (n + 1) false)).toArray 4 (0, 0))) (fun iv _ => n + 1 - (intOf iv).toNat)
  case atStart => exact ⟨0, _, Nat.zero_le _, rfl, HLA4.out, HG4.out, by simp, fun k hk => by omega, HT4.out⟩
  case round =>
    clear HLA4 HG4 HT4
    obtain ⟨i, l, hin, rfl, hla, hg, hll, hlk, ht⟩ := hrel
    have HLA := Lib.hid hla
    have HG := Lib.hid hg
    have HT := Lib.hid ht
    have HLK := Lib.hid hlk
    have HLL := Lib.hid hll
    clear hla hg ht hlk hll
    by_cases hlt : i ≤ n
    · have HFIT : Hid (i < (ints l).length) := by show _ < _; rw [ints_length, HLL.out]; omega
      have hle : i + 1 ≤ n + 1 := by omega
      go_wp2_with (refine wpList_store_cell rfl 3 (.tmp 50) _ rfl bg i (.int .i64 (-1099511627776)) rfl rfl 3 (ints l) HG.out sizeI HFIT.out rfl ?_)
      intro w5 h5 ho5
      have HG5 : Hid (w5.heap[bg]? = some (.cells (ints (l.set i (-1099511627776))).toArray 3 (0, 0))) := by
        show _ = _
        rw [h5]; simp [ints, List.map_set]
      have HLA5 := Lib.hid (QS.only HLA.out ho5 HNG.out.1 HNG.out.2)
      have HT5 : Hid (w5.heap[bt]? = some (.cells (bools (List.replicate (n + 1) false)).toArray 4 (0, 0))) := (ho5.heap bt (Array.getElem?_eq_some_iff.1 HT.out).1 (Ne.symm HNT.out.2.2)).trans HT.out
      have HLK5 : Hid (∀ k, (hk : k < i + 1) → (l.set i (-1099511627776))[k]? = some (-1099511627776)) := fun k hk => by
        by_cases e : i = k
        · subst e; rw [List.getElem?_set_self (by rw [HLL.out]; omega)]
        · rw [List.getElem?_set_ne e]; exact HLK.out k (by omega)
      have HLL5 : Hid ((l.set i (-1099511627776)).length = n + 1) := by show _ = _; rw [List.length_set]; exact HLL.out
      clear h5 ho5
      go_wp2_with fail
      go_roundw
      case rel =>
        first
          | exact ⟨i + 1, _, hle, by go_num, HLA5.out, HG5.out, HLL5.out, HLK5.out, HT5.out⟩
          | ((repeat apply Exists.intro); exact ⟨⟨i + 1, _, hle, by go_num, HLA5.out, HG5.out, HLL5.out, HLK5.out, HT5.out⟩, rfl⟩)
      case measure =>
        simp [intOf]
        omega
    · have hie : i = n + 1 := by omega
      have HQS : Hid (QS W g bg bt n a1 m wr (born 1 (n : Int) a1) 0 (fun _ => -1099511627776)) := by
        refine ⟨HLA.out, ?_, ?_, HNG.out.1, HNT.out.1, HNT.out.2.2, HNG.out.2, HNT.out.2.1, ⟨HLA.out.al.ok, fun x _ => ?_, fun p hp => by cases hp⟩, rfl, rfl, rfl, fun _ => Int.le_refl _⟩
        · have e : l = gl n (fun _ => -1099511627776) := by
            apply List.ext_getElem
            · rw [HLL.out, gl_length]
            · intro k h6 h7
              have h8 := HLK.out k (by rw [HLL.out] at h6; omega)
              rw [List.getElem?_eq_getElem h6] at h8
              rw [Option.some.inj h8]
              simp [gl]
          rw [← e]; exact HG.out
        · have e : List.replicate (n + 1) false = ul n (born 1 (n : Int) a1).used := by
            apply List.ext_getElem
            · rw [List.length_replicate, ul_length]
            · intro k h6 h7
              simp [ul, born]
          rw [← e]; exact HT.out
        · show (-1099511627776 : Int) + a1 ≤ 0
          have := HL.out; omega
      clear HLA HG HT HLK HLL
      have h63 := HN63.out
      go_wp2_with fail
      go_loopw [13, 14] (fun tv iv wx => ∃ (i : Nat) (tk : Int) (m : Am) (S : Al) (G : Int → Int), i ≤ n2 ∧ i ≤ 120 ∧ iv = .int .i64 (i : Int) ∧ tv = .int .i64 tk ∧ 0 ≤ tk ∧ tk ≤ (i : Int) * 6 ∧ QS W g bg bt n a1 m wx S tk G) (fun _ iv _ => n2 - (intOf iv).toNat)
      case atStart => exact ⟨0, 0, m, _, _, Nat.zero_le _, Nat.zero_le _, rfl, rfl, Int.le_refl _, by simp, HQS.out⟩
      case round =>
        clear HQS HNG HNT hin hie hlt
        obtain ⟨i, tk, m, S, G, hin, hi120, rfl, rfl, ht0, ht1, hqs⟩ := hrel
        have HQS := Lib.hid hqs
        clear hqs
        by_cases hlt : i < n2
        · by_cases hl120 : i < 120
          · have hil : i < qs.length := by rw [HQL.out]; exact hlt
            obtain ⟨b, o, ea, hbl, hcel⟩ := HQ.out.cells (by omega)
            subst ea
            obtain ⟨⟨kd, id, x⟩, hqe⟩ : ∃ q : Oq, q = qs[i] := ⟨_, rfl⟩
            have hcc := hcel i hil
            rw [← hqe] at hcc
            obtain ⟨hc0, hc1, hc2⟩ := hcc
            have HC0 : Hid (∀ w' : World, Below W.heap.size W w' → w'.cell? ⟨b, o + i * 3, none⟩ = some (.int .i64 kd) ∧ w'.cell? ⟨b, o + i * 3 + 1, none⟩ = some (.int .i64 id) ∧ w'.cell? ⟨b, o + i * 3 + 2, none⟩ = some (.int .i64 x)) := fun w' hw => ⟨cell_gr hw hc0, cell_gr hw hc1, cell_gr hw hc2⟩
            clear hil hbl hcel hqe hc0 hc1 hc2
            obtain ⟨c0, c1, c2⟩ := HC0.out _ HQS.out.la.low
            have hle : i + 1 ≤ n2 := by omega
            have hle120 : i + 1 ≤ 120 := by omega
            have HLAT := Lib.hid (later_any tk kd id x wr ht0 (by omega))
            go_wp2_with fail
            refine HLAT.out.mono ?_
            rintro e w5 ⟨r, hr0, hr6, rfl, hb⟩
            obtain ⟨t2, ht2⟩ : ∃ t2, t2 = tk + r := ⟨_, rfl⟩
            rw [← ht2]
            have HQ5 := Lib.hid ((HQS.out.gr hb).later (t2 := t2) (by omega))
            have hb0 : 0 ≤ t2 := by omega
            have hb1 : t2 ≤ ((i + 1 : Nat) : Int) * 6 := by omega
            have hokt : okT t2 := by unfold okT topT; omega
            clear hb HLAT c0 c1 c2 ht2 hr0 hr6 ht0 ht1 HQS
            obtain ⟨c0, c1, c2⟩ := HC0.out _ HQ5.out.la.low
            have hkb : -2 < kd.tmod 2 ∧ kd.tmod 2 < 2 := by
              rcases Int.le_total 0 kd with h | h
              · rw [Int.tmod_eq_emod_of_nonneg h]; omega
              · have e : kd.tmod 2 = -((-kd).tmod 2) := by rw [← Int.neg_tmod, Int.neg_neg]
                rw [e, Int.tmod_eq_emod_of_nonneg (by omega)]; omega
            have x5 : wrap64 (kd.tmod 2) = kd.tmod 2 := wrap64_in (by omega) (by omega)
            by_cases hk : kd.tmod 2 = 1
            · have hk2 : (kd.tmod 2 == 1) = true := by rw [hk]; rfl
              obtain ⟨hqt, hcase⟩ := HQ5.out.qt.take hokt
              have HQT := Lib.hid hqt
              have G := take_lb HQ5.out.la t2
              rcases hcase with ⟨he, hu⟩ | ⟨y, he, hy1, hy2, hy3, hy4, hu⟩
              · have e1 : (take S t2).2.1 = 0 := by rw [he]
                have e2 : (take S t2).2.2 = 111 := by rw [he]
                rw [e1, e2] at G
                have HG := Lib.hid G
                have HU := Lib.hid hu
                clear G he e1 e2 hu
                go_wp2_with fail
                refine HG.out.mono ?_
                rintro e w6 ⟨rfl, m6, hl6, hs6⟩
                obtain ⟨r1, r2, r3, r4⟩ := HQ5.out.kept hs6
                have htk := take_ok HQ5.out.la.al.ok t2
                have HQ6 : Hid (QS W g bg bt n a1 m6 w6 (take S t2).1 t2 G) := ⟨hl6, r1, by rw [HU.out]; exact r2, r3, r4, HQ5.out.ne, HQ5.out.lg, HQ5.out.lt, HQT.out, htk.2.1.trans HQ5.out.low, htk.2.2.1.trans HQ5.out.high, htk.2.2.2.trans HQ5.out.quiet, HQ5.out.gb⟩
                clear hl6 hs6 r1 r2 r3 r4 htk HG x5 c0 c1 c2
                go_wp2_with fail
                go_roundw
                case rel =>
                  first
                    | exact ⟨i + 1, t2, m6, _, G, hle, hle120, by go_num, rfl, hb0, hb1, HQ6.out⟩
                    | ((repeat apply Exists.intro); exact ⟨⟨i + 1, t2, m6, _, G, hle, hle120, by go_num, rfl, hb0, hb1, HQ6.out⟩, rfl⟩)
                case measure =>
                  simp [intOf]
                  omega
              · have e1 : (take S t2).2.1 = y := by rw [he]
                have e2 : (take S t2).2.2 = 0 := by rw [he]
                rw [e1, e2] at G
                have HG := Lib.hid G
                have HU := Lib.hid hu
                rw [HQ5.out.low] at hy1
                rw [HQ5.out.high] at hy2
                rw [HQ5.out.quiet] at hy4
                have HY3 := Lib.hid hy3
                obtain ⟨p, hp⟩ : ∃ p : Nat, y = (p : Int) := ⟨y.toNat, by omega⟩
                subst hp
                have hgb := HQ5.out.gb (p : Int)
                have hpn : p ≤ n := by omega
                clear G he e1 e2 hu hy3
                go_wp2_with fail
                refine HG.out.mono ?_
                rintro e w6 ⟨rfl, m6, hl6, hs6⟩
                obtain ⟨r1, r2, r3, r4⟩ := HQ5.out.kept hs6
                have d0 : w6.cell? ⟨bg, p, none⟩ = some (.int .i64 (G (p : Int))) := by
                  rw [cell_of_row _ _ _ _ _ _ r1]; simp [ints, gl, List.getElem?_map, List.getElem?_range (show p < n + 1 by omega)]
                have d1 : w6.cell? ⟨bt, p, none⟩ = some (.bool false) := by
                  rw [cell_of_row _ _ _ _ _ _ r2]; simp [bools, ul, List.getElem?_map, List.getElem?_range (show p < n + 1 by omega), HY3.out]
                have htk := take_ok HQ5.out.la.al.ok t2
                have HS6 := Lib.hid (And.intro r1 (And.intro r2 (And.intro r3 (And.intro r4 (And.intro (htk.2.1.trans HQ5.out.low) (And.intro (htk.2.2.1.trans HQ5.out.high) (htk.2.2.2.trans HQ5.out.quiet)))))))
                have HL6 := Lib.hid hl6
                obtain ⟨Gp, hGp⟩ : ∃ Gp, Gp = G (p : Int) := ⟨_, rfl⟩
                rw [← hGp] at d0 hgb hy4
                have x6 : wrap64 (t2 - Gp) = t2 - Gp := wrap64_in (by omega) (by omega)
                have hge : ¬ t2 - Gp < a1 := by omega
                have hp1 : ¬ (p : Int) < 1 := by omega
                have hp2 : ¬ (n : Int) < (p : Int) := by omega
                have hpl : (p : Int) < (n : Int) + 1 := by omega
                have hp0 : (0 : Int) ≤ (p : Int) := by omega
                have HFIT : Hid (p < (bools (ul n S.used)).length) := by show _ < _; rw [bools_length, ul_length]; omega
                have x1 := X1.out
                clear hl6 hs6 r1 r2 r3 r4 htk HG x5 c0 c1 c2 hGp
                go_wp2_with (refine wpList_store_cell rfl 4 (.tmp 108) _ rfl bt p (.bool true) rfl rfl 4 (bools (ul n S.used)) HS6.out.2.1 sizeB HFIT.out rfl ?_)
                intro w7 h7 ho7
                have HQ7 : Hid (QS W g bg bt n a1 m6 w7 (take S t2).1 t2 G) := by
                  obtain ⟨r1, r2, r3, r4, r5, r6, r7⟩ := HS6.out
                  refine ⟨QS.only HL6.out ho7 r4 HQ5.out.lt, (ho7.heap bg (Array.getElem?_eq_some_iff.1 r1).1 HQ5.out.ne).trans r1, ?_, r3, r4, HQ5.out.ne, HQ5.out.lg, HQ5.out.lt, HQT.out, r5, r6, r7, HQ5.out.gb⟩
                  rw [HU.out, ← ul_add, h7]
                  simp [bools, List.map_set]
                clear h7 ho7 d0 d1 x6 x1
                go_wp2_with fail
                go_roundw
                case rel =>
                  first
                    | exact ⟨i + 1, t2, m6, _, G, hle, hle120, by go_num, rfl, hb0, hb1, HQ7.out⟩
                    | ((repeat apply Exists.intro); exact ⟨⟨i + 1, t2, m6, _, G, hle, hle120, by go_num, rfl, hb0, hb1, HQ7.out⟩, rfl⟩)
                case measure =>
                  simp [intOf]
                  omega
            · have hk2 : (kd.tmod 2 == 1) = false := by rw [beq_eq_false_iff_ne]; exact hk
              go_upto_region 24 with fail
              clear x5 hk hk2 hkb
              obtain ⟨U, hU⟩ : ∃ U, IntKind.u64.wrap id = U := ⟨_, rfl⟩
              have hUb : 0 ≤ U := by rw [← hU]; exact u64_wrap_nonneg id
              have hN1 : IntKind.u64.wrap ((n : Int) + 1) = (n : Int) + 1 := by rw [IntKind.wrap_u64]; omega
              obtain ⟨p, hp⟩ : ∃ p : Nat, U.tmod ((n : Int) + 1) = (p : Int) := ⟨(U.tmod ((n : Int) + 1)).toNat, by
                have h5 := Int.tmod_eq_emod_of_nonneg (b := (n : Int) + 1) hUb
                have h6 := Int.emod_nonneg U (show (n : Int) + 1 ≠ 0 by omega)
                rw [h5]; omega⟩
              have hpn : p ≤ n := by
                have h5 := Int.tmod_eq_emod_of_nonneg (b := (n : Int) + 1) hUb
                have h6 := Int.emod_lt_of_pos U (show 0 < (n : Int) + 1 by omega)
                rw [h5] at hp; omega
              have hn0 : ¬ (n : Int) + 1 = 0 := by omega
              have hp0 : (0 : Int) ≤ (p : Int) := by omega
              have hpl : (p : Int) < (n : Int) + 1 := by omega
              have hptn : ((p : Int)).toNat = p := by omega
              have X6 : Hid (wrap64 (p : Int) = (p : Int)) := wrap64_in (by omega) (by omega)
              have HD : Hid (∀ w' : World, w'.heap[bt]? = some (.cells (bools (ul n S.used)).toArray 4 (0, 0)) → w'.cell? ⟨bt, p, none⟩ = some (.bool (decide ((p : Int) ∈ S.used)))) := fun w' hw => by
                rw [cell_of_row _ _ _ _ _ _ hw]; simp [bools, ul, List.getElem?_map, List.getElem?_range (show p < n + 1 by omega)]
              by_cases hu : (p : Int) ∈ S.used
              · have HG : Hid (∀ w', QS W g bg bt n a1 m w' S t2 G → Calls Try.prog 18 #[.pointer (some ⟨g, 0, none⟩), .int .i64 (p : Int), .int .i64 t2] w' fun e w2 => e = .returned (.int .i64 0) ∧ ∃ m', LA W g m' w2 (give S (p : Int) t2).1 ∧ Stp g m m' w' w2) := fun w' h => by
                  have := give_lb h.la (p : Int) t2
                  rw [show (give S (p : Int) t2).2 = 0 by rw [give_yes hu hokt]] at this
                  exact this
                rw [decide_eq_true hu] at HD
                have HGQ := Lib.hid (HQ5.out.qt.give hokt hu)
                have HGY := Lib.hid (give_yes hu hokt)
                have HGO := Lib.hid (give_ok HQ5.out.la.al.ok (p : Int) t2)
                have HFT : Hid (p < (bools (ul n S.used)).length) := by show _ < _; rw [bools_length, ul_length]; omega
                have HFG : Hid (p < (ints (gl n G)).length) := by show _ < _; rw [ints_length, gl_length]; omega
                clear hUb hu
                go_upto_region 25 with fail
                try rw [X6.out]
                have HC : Hid (Gr w5 w5.drew) := Gr.drew w5
                refine wp_region_H 3 Gr (Kp [bt]) (by kernel_rfl) ?_
                generalize w5.drew = wc at HC ⊢
                -- 0: slot 120
                refine wpH_takeH preGr (preKp _) (i := 0) (v := ?_) (some 120) (by kernel_rfl) rfl (by kernel_rfl) (by kernel_rfl) (by kernel_rfl) (fun _ _ _ h => h) (by rfl) (fun w' hw' => ?_) rfl ?_
                rotate_left
                · try (have d1 := HD.out _ ((hw'.2 bt (by simp)).trans (heap_gr HC.out HQ5.out.ht)))
                  go_simp
                  with_reducible rfl
                simp only [Act.put, List.setIfInBounds_toArray, List.set_cons_zero, List.set_cons_succ]
                -- 1: slot 121
                refine wpH_takeH preGr (preKp _) (i := 1) (v := ?_) (some 121) (by kernel_rfl) rfl (by kernel_rfl) (by kernel_rfl) (by kernel_rfl) (fun _ _ _ h => h) (by rfl) (fun w' hw' => ?_) rfl ?_
                rotate_left
                · try (have d1 := HD.out _ ((hw'.2 bt (by simp)).trans (heap_gr HC.out HQ5.out.ht)))
                  go_simp
                  with_reducible rfl
                simp only [Act.put, List.setIfInBounds_toArray, List.set_cons_zero, List.set_cons_succ]
                -- 2: slot 122
                refine wpH_takeH preGr (preKp _) (i := 2) (v := ?_) (some 122) (by kernel_rfl) rfl (by kernel_rfl) (by kernel_rfl) (by kernel_rfl) (fun _ _ _ h => h) (by rfl) (fun w' hw' => ?_) rfl ?_
                rotate_left
                · try (have d1 := HD.out _ ((hw'.2 bt (by simp)).trans (heap_gr HC.out HQ5.out.ht)))
                  go_simp
                  with_reducible rfl
                simp only [Act.put, List.setIfInBounds_toArray, List.set_cons_zero, List.set_cons_succ]
                -- 5: slot 125
                refine wpH_takeH preGr (preKp _) (i := 5) (v := ?_) (some 125) (by kernel_rfl) rfl (by kernel_rfl) (by kernel_rfl) (by kernel_rfl) (fun _ _ _ h => h) (by rfl) (fun w' hw' => ?_) rfl ?_
                rotate_left
                · try (have d1 := HD.out _ ((hw'.2 bt (by simp)).trans (heap_gr HC.out HQ5.out.ht)))
                  go_simp
                  with_reducible rfl
                simp only [Act.put, List.setIfInBounds_toArray, List.set_cons_zero, List.set_cons_succ]
                -- 6: slot 126
                refine wpH_takeH preGr (preKp _) (i := 6) (v := ?_) (some 126) (by kernel_rfl) rfl (by kernel_rfl) (by kernel_rfl) (by kernel_rfl) (fun _ _ _ h => h) (by rfl) (fun w' hw' => ?_) rfl ?_
                rotate_left
                · try (have d1 := HD.out _ ((hw'.2 bt (by simp)).trans (heap_gr HC.out HQ5.out.ht)))
                  go_simp
                  with_reducible rfl
                simp only [Act.put, List.setIfInBounds_toArray, List.set_cons_zero, List.set_cons_succ]
                -- 7: slot 127
                refine wpH_takeH preGr (preKp _) (i := 7) (v := ?_) (some 127) (by kernel_rfl) rfl (by kernel_rfl) (by kernel_rfl) (by kernel_rfl) (fun _ _ _ h => h) (by rfl) (fun w' hw' => ?_) rfl ?_
                rotate_left
                · try (have d1 := HD.out _ ((hw'.2 bt (by simp)).trans (heap_gr HC.out HQ5.out.ht)))
                  go_simp
                  with_reducible rfl
                simp only [Act.put, List.setIfInBounds_toArray, List.set_cons_zero, List.set_cons_succ]
                -- 8: slot 128
                refine wpH_takeH preGr (preKp _) (i := 8) (v := ?_) (some 128) (by kernel_rfl) rfl (by kernel_rfl) (by kernel_rfl) (by kernel_rfl) (fun _ _ _ h => h) (by rfl) (fun w' hw' => ?_) rfl ?_
                rotate_left
                · try (have d1 := HD.out _ ((hw'.2 bt (by simp)).trans (heap_gr HC.out HQ5.out.ht)))
                  go_simp
                  with_reducible rfl
                simp only [Act.put, List.setIfInBounds_toArray, List.set_cons_zero, List.set_cons_succ]
                refine wpH_tail (i := 3) (by decide) rfl (by kernel_rfl) (by rfl) ?_
                go_simp
                refine (HG.out wc (HQ5.out.gr HC.out)).mono ?_
                rintro e w6 ⟨rfl, m6, hl6, hs6⟩
                have hqc := HQ5.out.gr HC.out
                refine ⟨⟨hs6.tr.size, fun b hb => ?_⟩, ?_⟩
                · obtain rfl := List.mem_singleton.1 hb
                  exact hs6.tr.block _ (Array.getElem?_eq_some_iff.1 hqc.ht).1 hqc.nt
                obtain ⟨r1, r2, r3, r4⟩ := hqc.kept hs6
                have HL6 := Lib.hid hl6
                have HS6 := Lib.hid (And.intro r1 (And.intro r2 (And.intro r3 r4)))
                clear hl6 hs6 hqc r1 r2 r3 r4
                try simp only [Act.put, List.setIfInBounds_toArray, List.set_cons_zero, List.set_cons_succ]
                refine wpH_tail (i := 4) (by decide) rfl (by kernel_rfl) (by rfl) ?_
                go_simp
                refine ⟨(pre_refl (preKp _) _), ?_⟩
                try simp only [Act.put, List.setIfInBounds_toArray, List.set_cons_zero, List.set_cons_succ]
                refine wpH_tail (i := 9) (by decide) rfl (by kernel_rfl) (by rfl) ?_
                go_simp
                refine ⟨(pre_refl (preKp _) _), ?_⟩
                try simp only [Act.put, List.setIfInBounds_toArray, List.set_cons_zero, List.set_cons_succ]
                refine wpH_done (by kernel_rfl) ?_ _
                have d1 := HD.out _ HS6.out.2.1
                go_wp2_with (first | (refine wpList_store_cell rfl 4 (.tmp 139) _ rfl bt p (.bool false) rfl rfl 4 (bools (ul n S.used)) HS6.out.2.1 sizeB HFT.out rfl ?_))
                intro w7 h7 ho7
                have HG7 : Hid (w7.heap[bg]? = some (.cells (ints (gl n G)).toArray 3 (0, 0))) := (ho7.heap bg (Array.getElem?_eq_some_iff.1 HS6.out.1).1 HQ5.out.ne).trans HS6.out.1
                have HT7 := Lib.hid h7
                have HL7 := Lib.hid (QS.only HL6.out ho7 HS6.out.2.2.2 HQ5.out.lt)
                clear h7 ho7 d1
                go_wp2_with (first | (refine wpList_store_cell rfl 3 (.tmp 140) _ rfl bg p (.int .i64 t2) rfl rfl 3 (ints (gl n G)) HG7.out sizeI HFG.out rfl ?_))
                intro w8 h8 ho8
                have HQ8 : Hid (QS W g bg bt n a1 m6 w8 (give S (p : Int) t2).1 t2 (fun z => if z = (p : Int) then t2 else G z)) := by
                  have hgo := HGO.out
                  refine ⟨QS.only HL7.out ho8 HS6.out.2.2.1 HQ5.out.lg, ?_, ?_, HS6.out.2.2.1, HS6.out.2.2.2, HQ5.out.ne, HQ5.out.lg, HQ5.out.lt, HGQ.out, hgo.2.1.trans HQ5.out.low, hgo.2.2.1.trans HQ5.out.high, hgo.2.2.2.trans HQ5.out.quiet, fun z => ?_⟩
                  · rw [← gl_set, h8]; simp [ints, List.map_set]
                  · have e : (give S (p : Int) t2).1.used = S.used.erase (p : Int) := by rw [HGY.out]
                    rw [e, ← ul_del _ _ _ HQ5.out.la.al.ok.used_nodup]
                    refine (ho8.heap bt (Array.getElem?_eq_some_iff.1 HT7.out).1 (Ne.symm HQ5.out.ne)).trans ?_
                    rw [HT7.out]; simp [bools, List.map_set]
                  · by_cases ez : z = (p : Int)
                    · simp only [ez, if_true]; omega
                    · simp only [ez, if_false]; exact HQ5.out.gb z
                clear h8 ho8
                go_wp2_with fail
                go_roundw
                case rel =>
                  first
                    | exact ⟨i + 1, t2, m6, _, _, hle, hle120, by go_num, rfl, hb0, hb1, HQ8.out⟩
                    | ((repeat apply Exists.intro); exact ⟨⟨i + 1, t2, m6, _, _, hle, hle120, by go_num, rfl, hb0, hb1, HQ8.out⟩, rfl⟩)
                case measure =>
                  clear hN1
                  simp [intOf]
                  omega
              · have HG : Hid (∀ w', QS W g bg bt n a1 m w' S t2 G → Calls Try.prog 18 #[.pointer (some ⟨g, 0, none⟩), .int .i64 (p : Int), .int .i64 t2] w' fun e w2 => e = .returned (.int .i64 112) ∧ ∃ m', LA W g m' w2 S ∧ Stp g m m' w' w2) := fun w' h => by
                  have := give_lb h.la (p : Int) t2
                  rw [show (give S (p : Int) t2) = (S, 112) from give_no hu hokt] at this
                  exact this
                rw [decide_eq_false hu] at HD
                clear hUb hu
                go_upto_region 25 with fail
                try rw [X6.out]
                have HC : Hid (Gr w5 w5.drew) := Gr.drew w5
                refine wp_region_H 3 Gr (Kp [bt]) (by kernel_rfl) ?_
                generalize w5.drew = wc at HC ⊢
                -- 0: slot 120
                refine wpH_takeH preGr (preKp _) (i := 0) (v := ?_) (some 120) (by kernel_rfl) rfl (by kernel_rfl) (by kernel_rfl) (by kernel_rfl) (fun _ _ _ h => h) (by rfl) (fun w' hw' => ?_) rfl ?_
                rotate_left
                · try (have d1 := HD.out _ ((hw'.2 bt (by simp)).trans (heap_gr HC.out HQ5.out.ht)))
                  go_simp
                  with_reducible rfl
                simp only [Act.put, List.setIfInBounds_toArray, List.set_cons_zero, List.set_cons_succ]
                -- 1: slot 121
                refine wpH_takeH preGr (preKp _) (i := 1) (v := ?_) (some 121) (by kernel_rfl) rfl (by kernel_rfl) (by kernel_rfl) (by kernel_rfl) (fun _ _ _ h => h) (by rfl) (fun w' hw' => ?_) rfl ?_
                rotate_left
                · try (have d1 := HD.out _ ((hw'.2 bt (by simp)).trans (heap_gr HC.out HQ5.out.ht)))
                  go_simp
                  with_reducible rfl
                simp only [Act.put, List.setIfInBounds_toArray, List.set_cons_zero, List.set_cons_succ]
                -- 2: slot 122
                refine wpH_takeH preGr (preKp _) (i := 2) (v := ?_) (some 122) (by kernel_rfl) rfl (by kernel_rfl) (by kernel_rfl) (by kernel_rfl) (fun _ _ _ h => h) (by rfl) (fun w' hw' => ?_) rfl ?_
                rotate_left
                · try (have d1 := HD.out _ ((hw'.2 bt (by simp)).trans (heap_gr HC.out HQ5.out.ht)))
                  go_simp
                  with_reducible rfl
                simp only [Act.put, List.setIfInBounds_toArray, List.set_cons_zero, List.set_cons_succ]
                -- 5: slot 125
                refine wpH_takeH preGr (preKp _) (i := 5) (v := ?_) (some 125) (by kernel_rfl) rfl (by kernel_rfl) (by kernel_rfl) (by kernel_rfl) (fun _ _ _ h => h) (by rfl) (fun w' hw' => ?_) rfl ?_
                rotate_left
                · try (have d1 := HD.out _ ((hw'.2 bt (by simp)).trans (heap_gr HC.out HQ5.out.ht)))
                  go_simp
                  with_reducible rfl
                simp only [Act.put, List.setIfInBounds_toArray, List.set_cons_zero, List.set_cons_succ]
                -- 6: slot 126
                refine wpH_takeH preGr (preKp _) (i := 6) (v := ?_) (some 126) (by kernel_rfl) rfl (by kernel_rfl) (by kernel_rfl) (by kernel_rfl) (fun _ _ _ h => h) (by rfl) (fun w' hw' => ?_) rfl ?_
                rotate_left
                · try (have d1 := HD.out _ ((hw'.2 bt (by simp)).trans (heap_gr HC.out HQ5.out.ht)))
                  go_simp
                  with_reducible rfl
                simp only [Act.put, List.setIfInBounds_toArray, List.set_cons_zero, List.set_cons_succ]
                -- 7: slot 127
                refine wpH_takeH preGr (preKp _) (i := 7) (v := ?_) (some 127) (by kernel_rfl) rfl (by kernel_rfl) (by kernel_rfl) (by kernel_rfl) (fun _ _ _ h => h) (by rfl) (fun w' hw' => ?_) rfl ?_
                rotate_left
                · try (have d1 := HD.out _ ((hw'.2 bt (by simp)).trans (heap_gr HC.out HQ5.out.ht)))
                  go_simp
                  with_reducible rfl
                simp only [Act.put, List.setIfInBounds_toArray, List.set_cons_zero, List.set_cons_succ]
                -- 8: slot 128
                refine wpH_takeH preGr (preKp _) (i := 8) (v := ?_) (some 128) (by kernel_rfl) rfl (by kernel_rfl) (by kernel_rfl) (by kernel_rfl) (fun _ _ _ h => h) (by rfl) (fun w' hw' => ?_) rfl ?_
                rotate_left
                · try (have d1 := HD.out _ ((hw'.2 bt (by simp)).trans (heap_gr HC.out HQ5.out.ht)))
                  go_simp
                  with_reducible rfl
                simp only [Act.put, List.setIfInBounds_toArray, List.set_cons_zero, List.set_cons_succ]
                refine wpH_tail (i := 3) (by decide) rfl (by kernel_rfl) (by rfl) ?_
                go_simp
                refine (HG.out wc (HQ5.out.gr HC.out)).mono ?_
                rintro e w6 ⟨rfl, m6, hl6, hs6⟩
                have hqc := HQ5.out.gr HC.out
                refine ⟨⟨hs6.tr.size, fun b hb => ?_⟩, ?_⟩
                · obtain rfl := List.mem_singleton.1 hb
                  exact hs6.tr.block _ (Array.getElem?_eq_some_iff.1 hqc.ht).1 hqc.nt
                obtain ⟨r1, r2, r3, r4⟩ := hqc.kept hs6
                have HL6 := Lib.hid hl6
                have HS6 := Lib.hid (And.intro r1 (And.intro r2 (And.intro r3 r4)))
                clear hl6 hs6 hqc r1 r2 r3 r4
                try simp only [Act.put, List.setIfInBounds_toArray, List.set_cons_zero, List.set_cons_succ]
                refine wpH_tail (i := 4) (by decide) rfl (by kernel_rfl) (by rfl) ?_
                go_simp
                refine ⟨(pre_refl (preKp _) _), ?_⟩
                try simp only [Act.put, List.setIfInBounds_toArray, List.set_cons_zero, List.set_cons_succ]
                refine wpH_tail (i := 9) (by decide) rfl (by kernel_rfl) (by rfl) ?_
                go_simp
                refine ⟨(pre_refl (preKp _) _), ?_⟩
                try simp only [Act.put, List.setIfInBounds_toArray, List.set_cons_zero, List.set_cons_succ]
                refine wpH_done (by kernel_rfl) ?_ _
                have d1 := HD.out _ HS6.out.2.1
                have HQ8 : Hid (QS W g bg bt n a1 m6 w6 S t2 G) := ⟨HL6.out, HS6.out.1, HS6.out.2.1, HS6.out.2.2.1, HS6.out.2.2.2, HQ5.out.ne, HQ5.out.lg, HQ5.out.lt, HQ5.out.qt, HQ5.out.low, HQ5.out.high, HQ5.out.quiet, HQ5.out.gb⟩
                go_wp2_with fail
                go_roundw
                case rel =>
                  first
                    | exact ⟨i + 1, t2, m6, _, _, hle, hle120, by go_num, rfl, hb0, hb1, HQ8.out⟩
                    | ((repeat apply Exists.intro); exact ⟨⟨i + 1, t2, m6, _, _, hle, hle120, by go_num, rfl, hb0, hb1, HQ8.out⟩, rfl⟩)
                case measure =>
                  clear hN1
                  simp [intOf]
                  omega
          · go_wp2
            go_ret
            exact ⟨rfl, HQS.out.la.low⟩
        · go_wp2
          go_ret
          exact ⟨rfl, HQS.out.la.low⟩
theorem own : ownKnob Try.prog.godebug = none := by kernel_rfl
theorem laidOut : laidOutB Try.prog = true := by kernel_rfl
set_option maxRecDepth 100000 in
theorem lifted (os : Os) (started : os.Started) (H : Type) (enc : TypeId × Value → H) :
    ReturnsInHanded {} Try.checked os 5 .any (Rows.idsQuietSpec.pre6 enc Try.prog Try.f5 Rows.idsQuietRow.domain false) (Rows.idsQuietSpec.post enc Try.prog Try.f5 false true false false) := by
  refine returnsInHanded_of_change (C := Try.checked) own started (by kernel_rfl) Try.func5
    (ChangeSpec.witness6 (enc := enc) (C := Try.checked) false ⟨#[], #[.int .u8 0, .int .u8 0, .slice none 0 0], []⟩ 8 (by kernel_rfl) (by kernel_rfl) (by kernel_rfl) (by kernel_rfl)) ?_
  intro W base args ds gs before hval0 hW hcnd _
  have hval : ∀ (j : Nat) t v, Try.f5.params[j]? = some t → args[j]? = some v → Value.okWide Try.prog W .any base t v := hval0
  have hW' := hW
  obtain ⟨p, q, hA0, hV, rfl, hfz, hnd⟩ := hW
  have hA : DataW.TrodAll enc Try.prog W 0 (fun _ => true) true Try.f5.params.toList args.toList ds p := hA0
  rw [Try.params5] at hA hval
  obtain ⟨v0, vs0, d0, ds0, p0, q0, hargs, rfl, rfl, h0, r0⟩ := trodAll_cons hA
  obtain ⟨v1, vs1, d1, ds1, p1, q1, rfl, rfl, rfl, h1, r1⟩ := trodAll_cons r0
  obtain ⟨v2, vs2, d2, ds2, p2, q2, rfl, rfl, rfl, h2, r2⟩ := trodAll_cons r1
  obtain ⟨rfl, rfl, rfl⟩ := trodAll_nil r2
  obtain rfl : args = #[v0, v1, v2] := by cases args; simp_all
  obtain ⟨rfl, rfl⟩ := trodVars_none hV
  have k0 := h0
  have lt0 : ∀ x ∈ p0, x.block < W.heap.size := by obtain ⟨m, hm⟩ := k0; exact DataW.trod_lt m _ _ _ hm
  obtain ⟨a0, rfl, rfl, rfl, w0⟩ := open_int Try.underlying5 (hval 0 5 v0 rfl rfl) h0
  have k1 := h1
  have lt1 : ∀ x ∈ p1, x.block < W.heap.size := by obtain ⟨m, hm⟩ := k1; exact DataW.trod_lt m _ _ _ hm
  obtain ⟨a1, rfl, rfl, rfl, w1⟩ := open_int Try.underlying5 (hval 1 5 v1 rfl rfl) h1
  have k2 := h2
  have lt2 : ∀ x ∈ p2, x.block < W.heap.size := by obtain ⟨m, hm⟩ := k2; exact DataW.trod_lt m _ _ _ hm
  obtain ⟨a2, n2, c2, qs2, rfl, b2⟩ := open_ops Try.underlying22 Try.underlying29 ⟨rfl, rfl, rfl⟩ Try.underlying3 Try.underlying3 Try.underlying3 ⟨by kernel_rfl, by kernel_rfl, by kernel_rfl, by kernel_rfl⟩ (hval 2 22 v2 rfl rfl) h2
  clear hA0 hval0
  refine (walk W a0 w0 a1 w1 a2 n2 c2 qs2 b2).mono fun e W' ⟨he, bel⟩ => ?_
  subst he
  exact ⟨_, rfl, _, _, _, [], _, [], hW', trodAll_mk1 (shut_bool Try.underlying4 _), (trodAll_cons_mk (Below.trod laidOut (by kernel_rfl) (of_decide_eq_true (by kernel_rfl)) k0 bel lt0) (trodAll_cons_mk (Below.trod laidOut (by kernel_rfl) (of_decide_eq_true (by kernel_rfl)) k1 bel lt1) (trodAll_cons_mk (Below.trod laidOut (by kernel_rfl) (of_decide_eq_true (by kernel_rfl)) k2 bel lt2) trodAll_mk0))), rfl, bel.frame _, fun h => by cases h⟩
theorem over : Rows.idsQuietRow.holds Try.pinned (OpenSpec.ofChange Rows.idsQuietSpec) :=
  OpenClaim.holds_of_wide 5 Try.f5 rfl rfl rfl rfl rfl rfl rfl ⟨rfl, rfl, rfl, rfl, rfl⟩ rfl rfl rfl rfl rfl (by kernel_rfl) Try.func5 (by kernel_rfl)
    (of_decide_eq_true (by kernel_rfl)) (by unfold Func.isWrapper; first | (rw [if_pos (by decide +kernel)]; kernel_rfl) | (rw [if_neg (by decide +kernel)]; exact ⟨rfl, rfl⟩))
    (fun os started H enc _ => lifted os started H enc)
/-- The statement. -/
theorem proved : Rows.IdsQuietSaid := over
end Go.Proofs.Ytpafcabcnkmadaa.idsQuiet
