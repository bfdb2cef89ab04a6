/-
  For every row of tags (the first 70, each with the first 1600 bytes of its value) and every two rows of bytes (their first 1600): what tags.Encode told is decoded, also with an end and the second row behind it; what tags.Decode tells of the first row is encoded to its beginning, and writing into the values changes nothing of what came in (conciergelaw05.TagsBack answers true). No conditions.
-/
import Derived.Test.YtlpafphlecajhaaTagK
import Derived.Test.YtlpafphlecajhaaTagG
import Derived.Test.YtlpafphlecajhaaOpenT
import Derived.Laws.BitsAllLaws
import Derived.ProofKit
import Derived.OpenShut
import Derived.ChangeOld
namespace Go.Proofs.Ytlpafphlecajhaa.tagsBack
open Go.ChangeShapes Go.WideShapes Go.ChangeAt Go.RowKit
set_option linter.unusedVariables false
set_option linter.unusedSimpArgs false

/-- A byte written anywhere leaves a row of bytes of the call's own one of as many bytes. -/
theorem own_poke {w : World} {base g k : Nat} {e : TypeId} {v : Value} {ys : List UInt8} (h : OwnB w base e v ys) (z : UInt8) : ∃ zs : List UInt8, zs.length = ys.length ∧ OwnB (w.setCell ⟨g, k, none⟩ (.int .u8 (z.toNat : Int))) base e v zs := by
  by_cases hb : v.ownBlock = some g
  · obtain ⟨h0, h2⟩ := h
    rcases h2 with ⟨rfl, _⟩ | ⟨g', cap, cur, rfl, h3⟩
    · cases hb
    · simp only [Value.ownBlock, Option.some.injEq] at hb
      subst hb
      have hown : w.ownsRow base e 1 (.slice (some ⟨g', 0, none⟩) ys.length cap) ys.length (ys.map u8v) := ⟨h0, .inr ⟨g', cap, cur, rfl, h3⟩⟩
      refine ⟨ys.set k z, by simp, ?_⟩
      have := (World.ownsRow.stored hown k (.int .u8 (z.toNat : Int))).1
      unfold OwnB
      rw [List.length_set, List.map_set]
      exact this
  · refine ⟨ys, rfl, OwnB.off h (Only.setCell w k _) fun j hj e => hb (by rw [hj, e])⟩
/-- What the loops that turn all bytes of all values keep: the row of tags, bytes of the call's own for each value, and all that came in. -/
structure JI (W wr : World) (base : Nat) (A : Option Addr) (N C : Nat) (ts : List Tg) : Prop where
  rd : Rd wr 2 (.slice A N C) N (flat ts)
  blk : ∀ ad, A = some ad → ∃ cs fr, wr.heap[ad.block]? = some (.cells cs 34 fr)
  vals : ∀ t ∈ ts, ∃ ys : List UInt8, ys.length = t.l.length ∧ OwnB wr base 5 t.val ys
  ge : W.heap.size ≤ base
  low : Below W.heap.size W wr
theorem JI.start {W wr : World} {base : Nat} {A : Option Addr} {N C : Nat} {ts : List Tg} (h : TO wr base (.slice A N C) ts) (hN : N = ts.length) (hg : W.heap.size ≤ base) (hb : Below W.heap.size W wr) : JI W wr base A N C ts := by
  refine ⟨?_, fun ad had => ?_, fun t ht => ⟨t.l, rfl, h.vals t ht⟩, hg, hb⟩
  · have := own_rd h.own
    rw [← hN] at this
    exact this
  · rcases h.own.2 with ⟨h1, _⟩ | ⟨g, cap, cur, h1, h2, h3, _⟩
    · simp only [Value.slice.injEq] at h1
      rw [h1.1] at had
      cases had
    · simp only [Value.slice.injEq] at h1
      rw [h1.1] at had
      obtain rfl := Option.some.inj had
      exact ⟨cur, (0, 0), h3⟩
theorem JI.start_at {W wr : World} {base : Nat} {A : Option Addr} {N C : Nat} {ts : List Tg} (h : JI W wr base A N C ts) (hN : 0 < N) : ∃ b o, A = some ⟨b, o, none⟩ := by
  obtain ⟨b, o, h1, _⟩ := Rd.cells h.rd hN (by omega)
  exact ⟨b, o, h1⟩
theorem JI.cell_at {W wr : World} {base b o : Nat} {N C : Nat} {ts : List Tg} (h : JI W wr base (some ⟨b, o, none⟩) N C ts) (i : Nat) (hi : i < ts.length) : wr.cell? ⟨b, o + i * 2 + 1, none⟩ = some ts[i].val := by
  obtain ⟨h0, ao, cap, e, h1, h2, h3, h4⟩ := h.rd
  simp only [Value.slice.injEq] at e
  have := h4 _ e.1.symm (i * 2 + 1) _ (flat_get ts i hi).2
  rwa [Addr.add_lit] at this
theorem JI.val_at {W wr : World} {base : Nat} {A : Option Addr} {N C : Nat} {ts : List Tg} (h : JI W wr base A N C ts) (i : Nat) (hi : i < ts.length) : ∃ Av Lv Cv, ts[i].val = .slice Av Lv Cv ∧ ts[i].l.length = Lv ∧ Lv ≤ maxLen := by
  obtain ⟨ys, h1, h2⟩ := h.vals _ (List.getElem_mem hi)
  obtain ⟨Av, Lv, Cv, ev, hl, hc, hm⟩ := h2.bs.sl
  exact ⟨Av, Lv, Cv, ev, by omega, Nat.le_trans hc hm⟩
theorem JI.poke {W wr : World} {base b o : Nat} {N C Lv Cv : Nat} {Av : Option Addr} {ts : List Tg} (h : JI W wr base (some ⟨b, o, none⟩) N C ts) (i : Nat) (hi : i < ts.length) (hv : ts[i].val = .slice Av Lv Cv) (k : Nat) (hk : k < Lv) :
    ∃ g, Av = some ⟨g, 0, none⟩ ∧ ∃ z : UInt8, wr.cell? ⟨g, k, none⟩ = some (.int .u8 (z.toNat : Int)) ∧ wr.frozen? ⟨g, k, none⟩ = false ∧ ∀ t : UInt8, JI W (wr.setCell ⟨g, k, none⟩ (.int .u8 (t.toNat : Int))) base (some ⟨b, o, none⟩) N C ts := by
  obtain ⟨ys, h1, hown⟩ := h.vals _ (List.getElem_mem hi)
  rw [hv] at hown
  have hyl : ys.length = Lv := by
    obtain ⟨A', L', C', ev, hl, _, _⟩ := hown.bs.sl
    simp only [Value.slice.injEq] at ev
    omega
  unfold OwnB at hown
  rw [hyl] at hown
  obtain ⟨h0, ⟨h2, _⟩ | ⟨g, cap, cur, h2, hb, hg, _⟩⟩ := id hown
  · simp only [Value.slice.injEq] at h2
    omega
  · simp only [Value.slice.injEq] at h2
    obtain ⟨rfl, _, rfl⟩ := h2
    obtain ⟨cs, fr, hbb⟩ := h.blk _ rfl
    have hne : b ≠ g := by
      intro e
      subst e
      rw [hg] at hbb
      simp only [Option.some.injEq, Obj.cells.injEq] at hbb
      exact absurd hbb.2.1 (by decide)
    have hc : wr.cell? ⟨g, k, none⟩ = some (.int .u8 ((ys[k]'(by omega)).toNat : Int)) := by
      have h3 := World.ownsRow.cellAt hown k (by simp; omega)
      rw [h3]
      simp [show k < ys.length by omega, u8v]
    refine ⟨g, rfl, _, hc, World.ownsRow.frozenAt hown k, fun t => ⟨?_, fun ad had => ?_, fun u hu => ?_, h.ge, h.low.setCell (Nat.le_trans h.ge hb) _⟩⟩
    · obtain ⟨r0, ao, cap', e, r1, r2, r3, r4⟩ := h.rd
      simp only [Value.slice.injEq] at e
      obtain ⟨rfl, _, rfl⟩ := e
      refine ⟨r0, _, C, rfl, r1, r2, r3, fun ad had j u hu => ?_⟩
      have := r4 ad had j u hu
      rw [World.cell?_of_block (w := wr) (heap_setCell_other _ _ _ _ ?_)]
      · exact this
      · obtain rfl := Option.some.inj had
        rw [add_block]
        exact hne
    · obtain rfl := Option.some.inj had
      exact ⟨cs, fr, (heap_setCell_other _ _ _ _ hne).trans hbb⟩
    · obtain ⟨zs, e1, e2⟩ := h.vals u hu
      obtain ⟨ws, e3, e4⟩ := own_poke (g := g) (k := k) e2 t
      exact ⟨ws, by omega, e4⟩

set_option maxRecDepth 100000 in
set_option maxHeartbeats 20000000 in
theorem walk (W : World) (a0 : Option Addr) (n0 c0 : Nat) (ts0 : List Tg) (b0 : TR W (.slice a0 n0 c0) n0 ts0) (a1 : Option Addr) (n1 c1 : Nat) (l1 : List UInt8) (hn1 : l1.length = n1) (b1 : Bs W (.slice a1 n1 c1) l1)
    (a2 : Option Addr) (n2 c2 : Nat) (l2 : List UInt8) (hn2 : l2.length = n2) (b2 : Bs W (.slice a2 n2 c2) l2) :
    Calls Try.prog 7 #[.slice a0 n0 c0, .slice a1 n1 c1, .slice a2 n2 c2] W fun e w' => e = .returned (.bool true) ∧ Below W.heap.size W w' := by
  obtain ⟨j0, hj, hy0, hy1, hy2⟩ := info_parts info5
  have AW := Lib.hid awake_any
  have FW := Lib.hid (few_any a0 n0 c0 ts0 W b0)
  have hlen := fewT_len ts0
  have hsm : ∀ x ∈ fewT ts0, x.l.length ≤ 1000000 := fun x hx => Nat.le_trans (fewT_small ts0 x hx) (by decide)
  obtain ⟨m1, x1, hm1, hx1, u1, hcut1⟩ := cut_in hn1 b1
  obtain ⟨m2, x2, hm2, hx2, u2, hcut2⟩ := cut_in hn2 b2
  have HC1 := Lib.hid hcut1
  have HC2 := Lib.hid hcut2
  have HX1 := Lib.hid hx1
  have HX2 := Lib.hid hx2
  have HU1 := Lib.hid u1
  have HU2 := Lib.hid u2
  clear b0 hn1 b1 u1 hcut1 hx1 hn2 b2 u2 hcut2 hx2
  go_enter Try.func7, Try.ntmps7
  go_wp2_with fail
  refine FW.out.mono ?_
  rintro e w1 ⟨al, cl, rfl, htr, hb1⟩
  generalize fewT ts0 = ls at htr hlen hsm ⊢
  obtain ⟨n, hn⟩ : ∃ n, n = ls.length := ⟨_, rfl⟩
  rw [← hn] at htr ⊢
  have HLN := Lib.hid hn
  have HB1 := Lib.hid hb1
  have HT1 := Lib.hid htr
  have hn70 : n ≤ 70 := by omega
  have E1 := Lib.hid (encode_any al n cl ls w1 HT1.out (by omega) hsm)
  clear hb1 htr hsm hn hlen
  go_wp2_with fail
  refine (HC1.out _).mono ?_
  rintro e w' ⟨rfl, rfl⟩
  go_wp2_with fail
  refine (HC2.out _).mono ?_
  rintro e w' ⟨rfl, rfl⟩
  go_wp2_with fail
  refine E1.out.mono ?_
  rintro e w2 ⟨v2, rfl, hown2, hb2⟩
  have HB2 := Lib.hid (HB1.out.trans (hb2.mono HB1.out.size))
  have HT2 := Lib.hid (HT1.out.below hb2)
  obtain ⟨A2, L2, C2, ev, hL2, _, _⟩ := hown2.bs.sl
  subst ev
  have HL2 := Lib.hid hL2
  have HV2 := Lib.hid hown2.bs
  obtain ⟨p, hp⟩ : ∃ p, p = encE (plain ls) := ⟨_, rfl⟩
  have HP := Lib.hid hp
  rw [← hp]
  clear hown2 hb2 hL2 hp E1
  by_cases hp0 : p = 0
  · have HE0 : Hid (encE (plain ls) = 0) := by show _ = _; rw [← HP.out]; exact hp0
    subst hp0
    obtain ⟨y0, hy0'⟩ : ∃ y0, y0 = wireT (plain ls) := ⟨_, rfl⟩
    have HY0 := Lib.hid hy0'
    have HYL : Hid (y0.length = L2) := by show _ = _; rw [← HL2.out, encB_yes HE0.out, hy0']
    have hL14 : L2 ≤ 1494 := by rw [← HYL.out, hy0']; exact (encE_zero HE0.out).2.2
    have HVB : Hid (Bs w2 (.slice A2 L2 C2) y0) := by
      have := HV2.out
      rw [encB_yes HE0.out, ← hy0'] at this
      exact this
    have HDW : Hid (dec y0 = (plain ls, 0)) := by show _ = _; rw [hy0']; exact dec_wire HE0.out
    have D1 := Lib.hid (decode_any A2 L2 C2 y0 HYL.out w2 HVB.out (by omega))
    clear hy0'
    go_wp2_with fail
    refine D1.out.mono ?_
    rintro e w3 ⟨v3, rfl, ⟨xs, hxs, hto3⟩, hb3⟩
    rw [HDW.out] at hxs
    rw [HDW.out]
    have HB3 := Lib.hid (HB2.out.trans (hb3.mono HB2.out.size))
    have HT3 := Lib.hid (HT2.out.below hb3)
    have HV3 := Lib.hid (HVB.out.below hb3)
    obtain ⟨A3, C3, ev, _, _⟩ := hto3.tr.shape
    subst ev
    have S1 := Lib.hid (same_true A3 al _ _ C3 cl xs ls w3 hto3.tr HT3.out hxs)
    clear hto3 hxs hb3 D1
    go_wp2_with fail
    refine S1.out.mono ?_
    rintro e w4 ⟨rfl, hb4⟩
    have HB4 := Lib.hid (HB3.out.trans (hb4.mono HB3.out.size))
    have HT4 := Lib.hid (HT3.out.below hb4)
    have hEA : Below w4.heap.size w4 (w4.alloc (.cells #[] 5)) := (Below.refl _ _).alloc (Nat.le_refl _) _
    have HEA := Lib.hid hEA
    have HOW : Hid ((w4.alloc (.cells #[] 5)).ownsRow w4.heap.size 5 1 (.slice (some ⟨w4.heap.size, 0, none⟩) 0 0) 0 []) := World.ownsRow_made _ _ _ (Nat.le_refl _) (Nat.zero_le _) rfl
    have HRA : Hid (Rd (w4.alloc (.cells #[] 5)) 1 (.slice A2 L2 C2) L2 (y0.map u8v)) := by
      have := (HV3.out.below hb4).below hEA
      unfold Bs at this
      rw [HYL.out] at this
      exact this
    clear hEA hb4 S1
    go_wp2_with (at_builtin; refine wpList_append_gr _ rfl (.tmp 47) (.tmp 48) 24 rfl w4.heap.size 5 j0 (.int .u8 0) 1 1 Try.underlying24 hj hy0 hy1 hy2 rfl (by decide) _ _ _ rfl HOW.out _ _ _ rfl HRA.out (oneCell_u8 _) ?q1 (by decide) HEA.out.size ?_)
    case q1 => omega
    intro v5 w5 ho5 hg5
    have HG5 := Lib.hid (HEA.out.trans (grown_below HOW.out HEA.out.size hg5))
    have hEZ : Below w5.heap.size w5 (w5.alloc (.cells #[.int .u8 0, .int .u8 0, .int .u8 0, .int .u8 0] 5)) := (Below.refl _ _).alloc (Nat.le_refl _) _
    have HGZ := Lib.hid (HG5.out.trans (hEZ.mono HG5.out.size))
    have HO5 := Lib.hid (ownsRow_below ho5 hEZ)
    have HRZ : Hid (Rd (w5.alloc (.cells #[.int .u8 0, .int .u8 0, .int .u8 0, .int .u8 0] 5)) 1 (.slice (some ⟨w5.heap.size, 0, none⟩) 4 4) 4 (([0, 0, 0, 0] : List UInt8).map u8v)) := rd_new w5 (([0, 0, 0, 0] : List UInt8).map u8v) 5 4 1 rfl (by decide)
    clear ho5 hg5 hEZ
    go_wp2_with (at_builtin; refine wpList_append_gr _ rfl (.tmp 49) (.tmp 50) 24 rfl w4.heap.size 5 j0 (.int .u8 0) 1 1 Try.underlying24 hj hy0 hy1 hy2 rfl (by decide) _ _ _ rfl HO5.out _ _ _ rfl HRZ.out (oneCell_u8 _) ?q1 (by decide) HGZ.out.size ?_)
    case q1 => omega
    intro v6 w6 ho6 hg6
    have HG6 := Lib.hid (HGZ.out.trans (grown_below HO5.out HGZ.out.size hg6))
    have HO6 := Lib.hid ho6
    have HRM : Hid (Rd w6 1 (.slice a2 m2 c2) m2 (x2.map u8v)) := by
      have := HU2.out.below (HB4.out.trans (HG6.out.mono HB4.out.size))
      unfold Bs at this
      rw [HX2.out] at this
      exact this
    clear ho6 hg6
    go_wp2_with (at_builtin; refine wpList_append_gr _ rfl (.tmp 51) (.tmp 52) 24 rfl w4.heap.size 5 j0 (.int .u8 0) 1 1 Try.underlying24 hj hy0 hy1 hy2 rfl (by decide) _ _ _ rfl HO6.out _ _ _ rfl HRM.out (oneCell_u8 _) ?q1 (by decide) HG6.out.size ?_)
    case q1 => omega
    intro v7 w7 ho7 hg7
    have HG7 := Lib.hid (HG6.out.trans (grown_below HO6.out HG6.out.size hg7))
    have HB7 := Lib.hid (HB4.out.trans (HG7.out.mono HB4.out.size))
    have HT7 := Lib.hid (HT4.out.below HG7.out)
    have hl7 : ((y0 ++ [0, 0, 0, 0]) ++ x2).length = L2 + 4 + m2 := by simp only [List.length_append, HYL.out, HX2.out]; rfl
    have hb7 : Bs w7 v7 ((y0 ++ [0, 0, 0, 0]) ++ x2) := by
      unfold Bs
      rw [hl7]
      have := own_rd ho7
      simpa using this
    obtain ⟨A7, L7, C7, ev, hL7, _, _⟩ := hb7.sl
    subst ev
    have HBS7 := Lib.hid hb7
    have HL7 := Lib.hid hL7
    have hl7' : L7 = L2 + 4 + m2 := by omega
    have HL7' := Lib.hid hl7'
    have hl7m : L7 ≤ 4000 := by omega
    clear ho7 hg7 hb7 hL7 hl7 hl7' HO5 HO6 HRZ HRM HRA HOW
    by_cases hle : L7 ≤ 1494
    · have HDS : Hid (dec ((y0 ++ [0, 0, 0, 0]) ++ x2) = (plain ls, 0)) := by
        show _ = _
        rw [HY0.out]
        exact dec_stop HE0.out x2 (by rw [← HY0.out, HL7.out]; exact hle)
      have D2 := Lib.hid (decode_any A7 L7 C7 _ HL7.out w7 HBS7.out (by omega))
      go_wp2_with fail
      refine D2.out.mono ?_
      rintro e w8 ⟨v8, rfl, ⟨zs, hzs, hto8⟩, hb8⟩
      rw [HDS.out] at hzs
      rw [HDS.out]
      have HB8 := Lib.hid (HB7.out.trans (hb8.mono HB7.out.size))
      have HT8 := Lib.hid (HT7.out.below hb8)
      obtain ⟨A8, C8, ev, _, _⟩ := hto8.tr.shape
      subst ev
      have S2 := Lib.hid (same_true A8 al _ _ C8 cl zs ls w8 hto8.tr HT8.out hzs)
      clear hto8 hzs hb8 D2
      go_wp2_with fail
      refine S2.out.mono ?_
      rintro e w9 ⟨rfl, hb9⟩
      have HB9 := Lib.hid (HB8.out.trans (hb9.mono HB8.out.size))
      clear hb9 S2
      have D := Lib.hid (decode_any a1 m1 c1 x1 HX1.out w9 (HU1.out.below HB9.out) (by omega))
      go_wp2_with fail
      refine D.out.mono ?_
      rintro e wm ⟨vm, rfl, ⟨ts, hts, hto⟩, hbm⟩
      have HBM := Lib.hid (HB9.out.trans (hbm.mono HB9.out.size))
      have HSZ : Hid (W.heap.size ≤ w9.heap.size) := HB9.out.size
      obtain ⟨Am, Cm, ev, _, _⟩ := hto.tr.shape
      subst ev
      have HTO := Lib.hid hto
      have HTS := Lib.hid hts
      obtain ⟨N, hN⟩ : ∃ N, N = ts.length := ⟨_, rfl⟩
      have HN := Lib.hid hN
      rw [← hN]
      obtain ⟨q, hq⟩ : ∃ q, q = (dec x1).2 := ⟨_, rfl⟩
      have HQ := Lib.hid hq
      rw [← hq]
      clear hto hts hbm hN hq D
      by_cases hq0 : q = 0
      · have HD0 : Hid (dec x1 = (plain ts, 0)) := Prod.ext HTS.out.symm (by rw [← HQ.out]; exact hq0)
        subst hq0
        obtain ⟨he0, r, hr⟩ := dec_again HD0.out
        have HE0 := Lib.hid he0
        have hz := encE_zero he0
        have hN64 : N ≤ 64 := by rw [HN.out, ← plain_length]; exact hz.1
        have hsm : ∀ t ∈ ts, t.l.length ≤ 1000000 := fun t ht => by
          have h1 : isT t.plain := hz.2.1 _ (List.mem_map.2 ⟨t, ht, rfl⟩)
          have h2 : t.l.length ≤ 65535 := h1.2.2
          omega
        have htr : TR wm (.slice Am N Cm) N ts := by
          have := HTO.out.tr
          rw [← HN.out] at this
          exact this
        have E := Lib.hid (encode_any Am N Cm ts wm htr (by omega) hsm)
        obtain ⟨y, hy⟩ : ∃ y, y = wireT (plain ts) := ⟨_, rfl⟩
        obtain ⟨L, hL⟩ : ∃ L, L = y.length := ⟨_, rfl⟩
        have hLm : L ≤ m1 := by
          have := congrArg List.length hr
          rw [List.length_append, ← hy, ← hL, HX1.out] at this
          omega
        have HTK : Hid (x1.take L = y) := by
          show _ = _
          rw [← hr, ← hy, hL, List.take_left']
          rfl
        have HY := Lib.hid hy
        have HL := Lib.hid hL
        clear he0 hr hz hsm htr hy hL
        go_wp2_with fail
        refine E.out.mono ?_
        rintro e we ⟨ve, rfl, howne, hbe⟩
        rw [encB_yes HE0.out, ← HY.out] at howne
        rw [HE0.out]
        have HBE := Lib.hid (HBM.out.trans (hbe.mono HBM.out.size))
        have HTE := Lib.hid (HTO.out.below hbe)
        have HVE := Lib.hid howne.bs
        have HUE := Lib.hid (HU1.out.below HBE.out)
        obtain ⟨Ae, Le, Ce, ev, hLe, _, _⟩ := howne.bs.sl
        subst ev
        obtain rfl : Le = L := by rw [HL.out]; exact hLe.symm
        have hrd : Rd we 1 (.slice a1 m1 c1) m1 (x1.map u8v) := by
          have := HUE.out
          unfold Bs at this
          rw [HX1.out] at this
          exact this
        obtain ⟨a6, hs6, hr6⟩ := slice_upto (P := Try.prog) Try.underlying24 hj hy1 hrd .i64 Le Le rfl hLm
        rw [take_u8', HTK.out] at hr6
        have HR6 : Hid (Bs we (.slice a6 Le c1) y) := Bs.of_rd hr6 rfl
        have qm : decide (m1 < Le) = false := by rw [decide_eq_false_iff_not]; omega
        have qi : decide ((m1 : Int) < (Le : Int)) = false := by rw [decide_eq_false_iff_not]; omega
        clear howne hbe hLe hrd hr6 E
        go_wp2_with fail
        refine wp_region_G 19 Gr (by kernel_rfl) ?_
        -- 0: slot 88
        refine wpG_take preGr (i := 0) (v := ?_) (by kernel_rfl) (some 88) (by kernel_rfl) rfl (by kernel_rfl) (by kernel_rfl) (by kernel_rfl) (fun _ _ _ h => h) (by rfl) (fun w' hw' => ?_) rfl ?_
        rotate_left
        · have s1 := run_string_of (P := Try.prog) 24 9 5 Try.underlying24 Try.underlying5 Try.underlying9 (HR6.out.below ((Gr.drew we).trans hw'))
          have s2 := run_string_of (P := Try.prog) 24 9 5 Try.underlying24 Try.underlying5 Try.underlying9 (HVE.out.below ((Gr.drew we).trans hw'))
          go_simp
          with_reducible rfl
        simp only [Act.put, List.setIfInBounds_toArray, List.set_cons_zero, List.set_cons_succ]
        -- 1: slot 89
        refine wpG_take preGr (i := 1) (v := ?_) (by kernel_rfl) (some 89) (by kernel_rfl) rfl (by kernel_rfl) (by kernel_rfl) (by kernel_rfl) (fun _ _ _ h => h) (by rfl) (fun w' hw' => ?_) rfl ?_
        rotate_left
        · have s1 := run_string_of (P := Try.prog) 24 9 5 Try.underlying24 Try.underlying5 Try.underlying9 (HR6.out.below ((Gr.drew we).trans hw'))
          have s2 := run_string_of (P := Try.prog) 24 9 5 Try.underlying24 Try.underlying5 Try.underlying9 (HVE.out.below ((Gr.drew we).trans hw'))
          go_simp
          with_reducible rfl
        simp only [Act.put, List.setIfInBounds_toArray, List.set_cons_zero, List.set_cons_succ]
        -- 2: slot 90
        refine wpG_take preGr (i := 2) (v := ?_) (by kernel_rfl) (some 90) (by kernel_rfl) rfl (by kernel_rfl) (by kernel_rfl) (by kernel_rfl) (fun _ _ _ h => h) (by rfl) (fun w' hw' => ?_) rfl ?_
        rotate_left
        · have s1 := run_string_of (P := Try.prog) 24 9 5 Try.underlying24 Try.underlying5 Try.underlying9 (HR6.out.below ((Gr.drew we).trans hw'))
          have s2 := run_string_of (P := Try.prog) 24 9 5 Try.underlying24 Try.underlying5 Try.underlying9 (HVE.out.below ((Gr.drew we).trans hw'))
          go_simp
          with_reducible rfl
        simp only [Act.put, List.setIfInBounds_toArray, List.set_cons_zero, List.set_cons_succ]
        -- 3: slot 91
        refine wpG_take preGr (i := 3) (v := ?_) (by kernel_rfl) (some 91) (by kernel_rfl) rfl (by kernel_rfl) (by kernel_rfl) (by kernel_rfl) (fun _ _ _ h => h) (by rfl) (fun w' hw' => ?_) rfl ?_
        rotate_left
        · have s1 := run_string_of (P := Try.prog) 24 9 5 Try.underlying24 Try.underlying5 Try.underlying9 (HR6.out.below ((Gr.drew we).trans hw'))
          have s2 := run_string_of (P := Try.prog) 24 9 5 Try.underlying24 Try.underlying5 Try.underlying9 (HVE.out.below ((Gr.drew we).trans hw'))
          go_simp
          with_reducible rfl
        simp only [Act.put, List.setIfInBounds_toArray, List.set_cons_zero, List.set_cons_succ]
        -- 4: slot 92
        refine wpG_take preGr (i := 4) (v := ?_) (by kernel_rfl) (some 92) (by kernel_rfl) rfl (by kernel_rfl) (by kernel_rfl) (by kernel_rfl) (fun _ _ _ h => h) (by rfl) (fun w' hw' => ?_) rfl ?_
        rotate_left
        · have s1 := run_string_of (P := Try.prog) 24 9 5 Try.underlying24 Try.underlying5 Try.underlying9 (HR6.out.below ((Gr.drew we).trans hw'))
          have s2 := run_string_of (P := Try.prog) 24 9 5 Try.underlying24 Try.underlying5 Try.underlying9 (HVE.out.below ((Gr.drew we).trans hw'))
          go_simp
          with_reducible rfl
        simp only [Act.put, List.setIfInBounds_toArray, List.set_cons_zero, List.set_cons_succ]
        -- 5: slot 93
        refine wpG_take preGr (i := 5) (v := ?_) (by kernel_rfl) (some 93) (by kernel_rfl) rfl (by kernel_rfl) (by kernel_rfl) (by kernel_rfl) (fun _ _ _ h => h) (by rfl) (fun w' hw' => ?_) rfl ?_
        rotate_left
        · have s1 := run_string_of (P := Try.prog) 24 9 5 Try.underlying24 Try.underlying5 Try.underlying9 (HR6.out.below ((Gr.drew we).trans hw'))
          have s2 := run_string_of (P := Try.prog) 24 9 5 Try.underlying24 Try.underlying5 Try.underlying9 (HVE.out.below ((Gr.drew we).trans hw'))
          go_simp
          with_reducible rfl
        simp only [Act.put, List.setIfInBounds_toArray, List.set_cons_zero, List.set_cons_succ]
        -- 6: slot 94
        refine wpG_take preGr (i := 6) (v := ?_) (by kernel_rfl) (some 94) (by kernel_rfl) rfl (by kernel_rfl) (by kernel_rfl) (by kernel_rfl) (fun _ _ _ h => h) (by rfl) (fun w' hw' => ?_) rfl ?_
        rotate_left
        · have s1 := run_string_of (P := Try.prog) 24 9 5 Try.underlying24 Try.underlying5 Try.underlying9 (HR6.out.below ((Gr.drew we).trans hw'))
          have s2 := run_string_of (P := Try.prog) 24 9 5 Try.underlying24 Try.underlying5 Try.underlying9 (HVE.out.below ((Gr.drew we).trans hw'))
          go_simp
          with_reducible rfl
        simp only [Act.put, List.setIfInBounds_toArray, List.set_cons_zero, List.set_cons_succ]
        -- 7: slot 95
        refine wpG_take preGr (i := 7) (v := ?_) (by kernel_rfl) (some 95) (by kernel_rfl) rfl (by kernel_rfl) (by kernel_rfl) (by kernel_rfl) (fun _ _ _ h => h) (by rfl) (fun w' hw' => ?_) rfl ?_
        rotate_left
        · have s1 := run_string_of (P := Try.prog) 24 9 5 Try.underlying24 Try.underlying5 Try.underlying9 (HR6.out.below ((Gr.drew we).trans hw'))
          have s2 := run_string_of (P := Try.prog) 24 9 5 Try.underlying24 Try.underlying5 Try.underlying9 (HVE.out.below ((Gr.drew we).trans hw'))
          go_simp
          with_reducible rfl
        simp only [Act.put, List.setIfInBounds_toArray, List.set_cons_zero, List.set_cons_succ]
        -- 8: slot 96
        refine wpG_take preGr (i := 8) (v := ?_) (by kernel_rfl) (some 96) (by kernel_rfl) rfl (by kernel_rfl) (by kernel_rfl) (by kernel_rfl) (fun _ _ _ h => h) (by rfl) (fun w' hw' => ?_) rfl ?_
        rotate_left
        · have s1 := run_string_of (P := Try.prog) 24 9 5 Try.underlying24 Try.underlying5 Try.underlying9 (HR6.out.below ((Gr.drew we).trans hw'))
          have s2 := run_string_of (P := Try.prog) 24 9 5 Try.underlying24 Try.underlying5 Try.underlying9 (HVE.out.below ((Gr.drew we).trans hw'))
          go_simp
          with_reducible rfl
        simp only [Act.put, List.setIfInBounds_toArray, List.set_cons_zero, List.set_cons_succ]
        -- 9: slot 97
        refine wpG_take preGr (i := 9) (v := ?_) (by kernel_rfl) (some 97) (by kernel_rfl) rfl (by kernel_rfl) (by kernel_rfl) (by kernel_rfl) (fun _ _ _ h => h) (by rfl) (fun w' hw' => ?_) rfl ?_
        rotate_left
        · have s1 := run_string_of (P := Try.prog) 24 9 5 Try.underlying24 Try.underlying5 Try.underlying9 (HR6.out.below ((Gr.drew we).trans hw'))
          have s2 := run_string_of (P := Try.prog) 24 9 5 Try.underlying24 Try.underlying5 Try.underlying9 (HVE.out.below ((Gr.drew we).trans hw'))
          go_simp
          with_reducible rfl
        simp only [Act.put, List.setIfInBounds_toArray, List.set_cons_zero, List.set_cons_succ]
        -- 10: slot 98
        refine wpG_take preGr (i := 10) (v := ?_) (by kernel_rfl) (some 98) (by kernel_rfl) rfl (by kernel_rfl) (by kernel_rfl) (by kernel_rfl) (fun _ _ _ h => h) (by rfl) (fun w' hw' => ?_) rfl ?_
        rotate_left
        · have s1 := run_string_of (P := Try.prog) 24 9 5 Try.underlying24 Try.underlying5 Try.underlying9 (HR6.out.below ((Gr.drew we).trans hw'))
          have s2 := run_string_of (P := Try.prog) 24 9 5 Try.underlying24 Try.underlying5 Try.underlying9 (HVE.out.below ((Gr.drew we).trans hw'))
          go_simp
          with_reducible rfl
        simp only [Act.put, List.setIfInBounds_toArray, List.set_cons_zero, List.set_cons_succ]
        -- 11: slot 99
        refine wpG_take preGr (i := 11) (v := ?_) (by kernel_rfl) (some 99) (by kernel_rfl) rfl (by kernel_rfl) (by kernel_rfl) (by kernel_rfl) (fun _ _ _ h => h) (by rfl) (fun w' hw' => ?_) rfl ?_
        rotate_left
        · have s1 := run_string_of (P := Try.prog) 24 9 5 Try.underlying24 Try.underlying5 Try.underlying9 (HR6.out.below ((Gr.drew we).trans hw'))
          have s2 := run_string_of (P := Try.prog) 24 9 5 Try.underlying24 Try.underlying5 Try.underlying9 (HVE.out.below ((Gr.drew we).trans hw'))
          go_simp
          with_reducible rfl
        simp only [Act.put, List.setIfInBounds_toArray, List.set_cons_zero, List.set_cons_succ]
        -- 12: slot 100
        refine wpG_take preGr (i := 12) (v := ?_) (by kernel_rfl) (some 100) (by kernel_rfl) rfl (by kernel_rfl) (by kernel_rfl) (by kernel_rfl) (fun _ _ _ h => h) (by rfl) (fun w' hw' => ?_) rfl ?_
        rotate_left
        · have s1 := run_string_of (P := Try.prog) 24 9 5 Try.underlying24 Try.underlying5 Try.underlying9 (HR6.out.below ((Gr.drew we).trans hw'))
          have s2 := run_string_of (P := Try.prog) 24 9 5 Try.underlying24 Try.underlying5 Try.underlying9 (HVE.out.below ((Gr.drew we).trans hw'))
          go_simp
          with_reducible rfl
        simp only [Act.put, List.setIfInBounds_toArray, List.set_cons_zero, List.set_cons_succ]
        -- 13: slot 101
        refine wpG_take preGr (i := 13) (v := ?_) (by kernel_rfl) (some 101) (by kernel_rfl) rfl (by kernel_rfl) (by kernel_rfl) (by kernel_rfl) (fun _ _ _ h => h) (by rfl) (fun w' hw' => ?_) rfl ?_
        rotate_left
        · have s1 := run_string_of (P := Try.prog) 24 9 5 Try.underlying24 Try.underlying5 Try.underlying9 (HR6.out.below ((Gr.drew we).trans hw'))
          have s2 := run_string_of (P := Try.prog) 24 9 5 Try.underlying24 Try.underlying5 Try.underlying9 (HVE.out.below ((Gr.drew we).trans hw'))
          go_simp
          with_reducible rfl
        simp only [Act.put, List.setIfInBounds_toArray, List.set_cons_zero, List.set_cons_succ]
        -- 14: slot 102
        refine wpG_take preGr (i := 14) (v := ?_) (by kernel_rfl) (some 102) (by kernel_rfl) rfl (by kernel_rfl) (by kernel_rfl) (by kernel_rfl) (fun _ _ _ h => h) (by rfl) (fun w' hw' => ?_) rfl ?_
        rotate_left
        · have s1 := run_string_of (P := Try.prog) 24 9 5 Try.underlying24 Try.underlying5 Try.underlying9 (HR6.out.below ((Gr.drew we).trans hw'))
          have s2 := run_string_of (P := Try.prog) 24 9 5 Try.underlying24 Try.underlying5 Try.underlying9 (HVE.out.below ((Gr.drew we).trans hw'))
          go_simp
          with_reducible rfl
        simp only [Act.put, List.setIfInBounds_toArray, List.set_cons_zero, List.set_cons_succ]
        -- 15: slot 103
        refine wpG_take preGr (i := 15) (v := ?_) (by kernel_rfl) (some 103) (by kernel_rfl) rfl (by kernel_rfl) (by kernel_rfl) (by kernel_rfl) (fun _ _ _ h => h) (by rfl) (fun w' hw' => ?_) rfl ?_
        rotate_left
        · have s1 := run_string_of (P := Try.prog) 24 9 5 Try.underlying24 Try.underlying5 Try.underlying9 (HR6.out.below ((Gr.drew we).trans hw'))
          have s2 := run_string_of (P := Try.prog) 24 9 5 Try.underlying24 Try.underlying5 Try.underlying9 (HVE.out.below ((Gr.drew we).trans hw'))
          go_simp
          with_reducible rfl
        simp only [Act.put, List.setIfInBounds_toArray, List.set_cons_zero, List.set_cons_succ]
        -- 16: slot 104
        refine wpG_take preGr (i := 16) (v := ?_) (by kernel_rfl) (some 104) (by kernel_rfl) rfl (by kernel_rfl) (by kernel_rfl) (by kernel_rfl) (fun _ _ _ h => h) (by rfl) (fun w' hw' => ?_) rfl ?_
        rotate_left
        · have s1 := run_string_of (P := Try.prog) 24 9 5 Try.underlying24 Try.underlying5 Try.underlying9 (HR6.out.below ((Gr.drew we).trans hw'))
          have s2 := run_string_of (P := Try.prog) 24 9 5 Try.underlying24 Try.underlying5 Try.underlying9 (HVE.out.below ((Gr.drew we).trans hw'))
          go_simp
          with_reducible rfl
        simp only [Act.put, List.setIfInBounds_toArray, List.set_cons_zero, List.set_cons_succ]
        -- 17: slot 105
        refine wpG_take preGr (i := 17) (v := ?_) (by kernel_rfl) (some 105) (by kernel_rfl) rfl (by kernel_rfl) (by kernel_rfl) (by kernel_rfl) (fun _ _ _ h => h) (by rfl) (fun w' hw' => ?_) rfl ?_
        rotate_left
        · have s1 := run_string_of (P := Try.prog) 24 9 5 Try.underlying24 Try.underlying5 Try.underlying9 (HR6.out.below ((Gr.drew we).trans hw'))
          have s2 := run_string_of (P := Try.prog) 24 9 5 Try.underlying24 Try.underlying5 Try.underlying9 (HVE.out.below ((Gr.drew we).trans hw'))
          go_simp
          with_reducible rfl
        simp only [Act.put, List.setIfInBounds_toArray, List.set_cons_zero, List.set_cons_succ]
        -- 18: slot 106
        refine wpG_take preGr (i := 18) (v := ?_) (by kernel_rfl) (some 106) (by kernel_rfl) rfl (by kernel_rfl) (by kernel_rfl) (by kernel_rfl) (fun _ _ _ h => h) (by rfl) (fun w' hw' => ?_) rfl ?_
        rotate_left
        · have s1 := run_string_of (P := Try.prog) 24 9 5 Try.underlying24 Try.underlying5 Try.underlying9 (HR6.out.below ((Gr.drew we).trans hw'))
          have s2 := run_string_of (P := Try.prog) 24 9 5 Try.underlying24 Try.underlying5 Try.underlying9 (HVE.out.below ((Gr.drew we).trans hw'))
          go_simp
          with_reducible rfl
        simp only [Act.put, List.setIfInBounds_toArray, List.set_cons_zero, List.set_cons_succ]
        refine wpG_done (by kernel_rfl) ?_ _
        have sb := run_string_of (P := Try.prog) 24 9 5 Try.underlying24 Try.underlying5 Try.underlying9 (HUE.out.below (Gr.drew we))
        have HJ : Hid (JI W we.drew w9.heap.size Am N Cm ts) := by
          have := HTE.out.below (Gr.drew we)
          exact JI.start (by rw [HN.out]; exact this) HN.out HSZ.out HBE.out.drew
        clear qm qi hs6 HVE HR6 HTE HUE HBE HTO HBM
        go_wp2
        go_loopw [19] (fun iv wr => ∃ i : Nat, i ≤ N ∧ iv = .int .i64 i ∧ Hid (JI W wr w9.heap.size Am N Cm ts)) (fun iv _ => N - (intOf iv).toNat)
        case atStart => exact ⟨0, Nat.zero_le _, rfl, HJ⟩
        case round =>
          clear HJ sb
          obtain ⟨i, hi, rfl, HJ⟩ := hrel
          by_cases hlt : i < N
          · obtain ⟨b, o, eA⟩ := HJ.out.start_at (by omega)
            subst eA
            have hiT : i < ts.length := by rw [← HN.out]; exact hlt
            obtain ⟨Av, Lv, Cv, hv, hLv, hLm⟩ := HJ.out.val_at i hiT
            have HV := Lib.hid hv
            have HLV := Lib.hid hLv
            unfold maxLen at hLm
            obtain ⟨wA, hA⟩ : ∃ x, x = wr := ⟨_, rfl⟩
            subst hA
            clear hv hLv
            go_wp2
            go_loopw [20] (fun kv wr => ∃ k : Nat, k ≤ Lv ∧ kv = .int .i64 k ∧ Hid (JI W wr w9.heap.size (some ⟨b, o, none⟩) N Cm ts)) (fun kv _ => Lv - (intOf kv).toNat)
            case atStart => exact ⟨0, Nat.zero_le _, rfl, HJ⟩
            case round =>
              clear HJ
              obtain ⟨k, hk, rfl, HJ⟩ := hrel
              have hcl := HJ.out.cell_at i hiT
              rw [HV.out] at hcl
              by_cases hkl : k < Lv
              · obtain ⟨g, eg, z, hz, hfz, hJ2⟩ := HJ.out.poke i hiT HV.out k hkl
                subst eg
                have hz8 := UInt8.toNat_lt z
                obtain ⟨t, ht⟩ : ∃ t : UInt8, t = UInt8.ofNat (z.toNat ^^^ 255) := ⟨_, rfl⟩
                have e1 := u8_xor_nat z.toNat 255 hz8 (by decide)
                have hx8 : z.toNat ^^^ 255 < 256 := Nat.xor_lt_two_pow (n := 8) hz8 (by decide)
                have e2 : ((z.toNat ^^^ 255 : Nat) : Int) = (t.toNat : Int) := by rw [ht, UInt8.toNat_ofNat', Nat.mod_eq_of_lt hx8]
                rw [e2] at e1
                have e3 : bits .xor .u8 (z.toNat : Int) 255 = (t.toNat : Int) := e1
                have HJ2 := Lib.hid (hJ2 t)
                have ht8 := UInt8.toNat_lt t
                generalize z.toNat = zn at hz e3 hz8
                generalize t.toNat = tn at e3 HJ2 ht8
                have ilt : (i : Int) < (N : Int) := by omega
                have klt : (k : Int) < (Lv : Int) := by omega
                clear ht e1 e2 hx8 hJ2
                go_wp2
                go_roundw
                case rel =>
                  first | exact ⟨k + 1, by omega, by go_num, HJ2⟩ | ((repeat apply Exists.intro); exact ⟨⟨k + 1, by omega, by go_num, HJ2⟩, rfl⟩)
                case measure => simp [intOf]; omega
              · obtain rfl : Lv = k := by omega
                go_wp2
                go_roundw
                case rel =>
                  first | exact ⟨i + 1, by omega, by go_num, HJ⟩ | ((repeat apply Exists.intro); exact ⟨⟨i + 1, by omega, by go_num, HJ⟩, rfl⟩)
                case measure => simp [intOf]; omega
          · obtain rfl : N = i := by omega
            have HBJ := Lib.hid HJ.out.low
            have sb := run_string_of (P := Try.prog) 24 9 5 Try.underlying24 Try.underlying5 Try.underlying9 (HU1.out.below HBJ.out)
            go_wp2_with fail
            refine (AW.out wr).mono ?_
            rintro e wf ⟨rfl, hbf⟩
            have HBF := Lib.hid (HBJ.out.trans (hbf.mono HBJ.out.size))
            clear hbf
            go_wp2
            go_ret
            exact ⟨rfl, HBF.out⟩
      · have hq0' : (q != 0) = true := by rw [bne_iff_ne]; exact hq0
        have hnil : plain ts = [] := by rw [HTS.out]; exact dec_err (by rw [← HQ.out]; exact hq0)
        have hN0 : N = 0 := by rw [HN.out, ← plain_length, hnil]; rfl
        subst hN0
        clear hnil
        go_wp2_with fail
        refine (AW.out wm).mono ?_
        rintro e wf ⟨rfl, hbf⟩
        have HBF := Lib.hid (HBM.out.trans (hbf.mono HBM.out.size))
        clear hbf
        go_wp2
        go_ret
        exact ⟨rfl, HBF.out⟩
    · have hgt : decide ((L7 : Int) ≤ 1494) = false := by rw [decide_eq_false_iff_not]; omega
      have D := Lib.hid (decode_any a1 m1 c1 x1 HX1.out w7 (HU1.out.below HB7.out) (by omega))
      go_wp2_with fail
      refine D.out.mono ?_
      rintro e wm ⟨vm, rfl, ⟨ts, hts, hto⟩, hbm⟩
      have HBM := Lib.hid (HB7.out.trans (hbm.mono HB7.out.size))
      have HSZ : Hid (W.heap.size ≤ w7.heap.size) := HB7.out.size
      obtain ⟨Am, Cm, ev, _, _⟩ := hto.tr.shape
      subst ev
      have HTO := Lib.hid hto
      have HTS := Lib.hid hts
      obtain ⟨N, hN⟩ : ∃ N, N = ts.length := ⟨_, rfl⟩
      have HN := Lib.hid hN
      rw [← hN]
      obtain ⟨q, hq⟩ : ∃ q, q = (dec x1).2 := ⟨_, rfl⟩
      have HQ := Lib.hid hq
      rw [← hq]
      clear hto hts hbm hN hq D
      by_cases hq0 : q = 0
      · have HD0 : Hid (dec x1 = (plain ts, 0)) := Prod.ext HTS.out.symm (by rw [← HQ.out]; exact hq0)
        subst hq0
        obtain ⟨he0, r, hr⟩ := dec_again HD0.out
        have HE0 := Lib.hid he0
        have hz := encE_zero he0
        have hN64 : N ≤ 64 := by rw [HN.out, ← plain_length]; exact hz.1
        have hsm : ∀ t ∈ ts, t.l.length ≤ 1000000 := fun t ht => by
          have h1 : isT t.plain := hz.2.1 _ (List.mem_map.2 ⟨t, ht, rfl⟩)
          have h2 : t.l.length ≤ 65535 := h1.2.2
          omega
        have htr : TR wm (.slice Am N Cm) N ts := by
          have := HTO.out.tr
          rw [← HN.out] at this
          exact this
        have E := Lib.hid (encode_any Am N Cm ts wm htr (by omega) hsm)
        obtain ⟨y, hy⟩ : ∃ y, y = wireT (plain ts) := ⟨_, rfl⟩
        obtain ⟨L, hL⟩ : ∃ L, L = y.length := ⟨_, rfl⟩
        have hLm : L ≤ m1 := by
          have := congrArg List.length hr
          rw [List.length_append, ← hy, ← hL, HX1.out] at this
          omega
        have HTK : Hid (x1.take L = y) := by
          show _ = _
          rw [← hr, ← hy, hL, List.take_left']
          rfl
        have HY := Lib.hid hy
        have HL := Lib.hid hL
        clear he0 hr hz hsm htr hy hL
        go_wp2_with fail
        refine E.out.mono ?_
        rintro e we ⟨ve, rfl, howne, hbe⟩
        rw [encB_yes HE0.out, ← HY.out] at howne
        rw [HE0.out]
        have HBE := Lib.hid (HBM.out.trans (hbe.mono HBM.out.size))
        have HTE := Lib.hid (HTO.out.below hbe)
        have HVE := Lib.hid howne.bs
        have HUE := Lib.hid (HU1.out.below HBE.out)
        obtain ⟨Ae, Le, Ce, ev, hLe, _, _⟩ := howne.bs.sl
        subst ev
        obtain rfl : Le = L := by rw [HL.out]; exact hLe.symm
        have hrd : Rd we 1 (.slice a1 m1 c1) m1 (x1.map u8v) := by
          have := HUE.out
          unfold Bs at this
          rw [HX1.out] at this
          exact this
        obtain ⟨a6, hs6, hr6⟩ := slice_upto (P := Try.prog) Try.underlying24 hj hy1 hrd .i64 Le Le rfl hLm
        rw [take_u8', HTK.out] at hr6
        have HR6 : Hid (Bs we (.slice a6 Le c1) y) := Bs.of_rd hr6 rfl
        have qm : decide (m1 < Le) = false := by rw [decide_eq_false_iff_not]; omega
        have qi : decide ((m1 : Int) < (Le : Int)) = false := by rw [decide_eq_false_iff_not]; omega
        clear howne hbe hLe hrd hr6 E
        go_wp2_with fail
        refine wp_region_G 19 Gr (by kernel_rfl) ?_
        -- 0: slot 88
        refine wpG_take preGr (i := 0) (v := ?_) (by kernel_rfl) (some 88) (by kernel_rfl) rfl (by kernel_rfl) (by kernel_rfl) (by kernel_rfl) (fun _ _ _ h => h) (by rfl) (fun w' hw' => ?_) rfl ?_
        rotate_left
        · have s1 := run_string_of (P := Try.prog) 24 9 5 Try.underlying24 Try.underlying5 Try.underlying9 (HR6.out.below ((Gr.drew we).trans hw'))
          have s2 := run_string_of (P := Try.prog) 24 9 5 Try.underlying24 Try.underlying5 Try.underlying9 (HVE.out.below ((Gr.drew we).trans hw'))
          go_simp
          with_reducible rfl
        simp only [Act.put, List.setIfInBounds_toArray, List.set_cons_zero, List.set_cons_succ]
        -- 1: slot 89
        refine wpG_take preGr (i := 1) (v := ?_) (by kernel_rfl) (some 89) (by kernel_rfl) rfl (by kernel_rfl) (by kernel_rfl) (by kernel_rfl) (fun _ _ _ h => h) (by rfl) (fun w' hw' => ?_) rfl ?_
        rotate_left
        · have s1 := run_string_of (P := Try.prog) 24 9 5 Try.underlying24 Try.underlying5 Try.underlying9 (HR6.out.below ((Gr.drew we).trans hw'))
          have s2 := run_string_of (P := Try.prog) 24 9 5 Try.underlying24 Try.underlying5 Try.underlying9 (HVE.out.below ((Gr.drew we).trans hw'))
          go_simp
          with_reducible rfl
        simp only [Act.put, List.setIfInBounds_toArray, List.set_cons_zero, List.set_cons_succ]
        -- 2: slot 90
        refine wpG_take preGr (i := 2) (v := ?_) (by kernel_rfl) (some 90) (by kernel_rfl) rfl (by kernel_rfl) (by kernel_rfl) (by kernel_rfl) (fun _ _ _ h => h) (by rfl) (fun w' hw' => ?_) rfl ?_
        rotate_left
        · have s1 := run_string_of (P := Try.prog) 24 9 5 Try.underlying24 Try.underlying5 Try.underlying9 (HR6.out.below ((Gr.drew we).trans hw'))
          have s2 := run_string_of (P := Try.prog) 24 9 5 Try.underlying24 Try.underlying5 Try.underlying9 (HVE.out.below ((Gr.drew we).trans hw'))
          go_simp
          with_reducible rfl
        simp only [Act.put, List.setIfInBounds_toArray, List.set_cons_zero, List.set_cons_succ]
        -- 3: slot 91
        refine wpG_take preGr (i := 3) (v := ?_) (by kernel_rfl) (some 91) (by kernel_rfl) rfl (by kernel_rfl) (by kernel_rfl) (by kernel_rfl) (fun _ _ _ h => h) (by rfl) (fun w' hw' => ?_) rfl ?_
        rotate_left
        · have s1 := run_string_of (P := Try.prog) 24 9 5 Try.underlying24 Try.underlying5 Try.underlying9 (HR6.out.below ((Gr.drew we).trans hw'))
          have s2 := run_string_of (P := Try.prog) 24 9 5 Try.underlying24 Try.underlying5 Try.underlying9 (HVE.out.below ((Gr.drew we).trans hw'))
          go_simp
          with_reducible rfl
        simp only [Act.put, List.setIfInBounds_toArray, List.set_cons_zero, List.set_cons_succ]
        -- 4: slot 92
        refine wpG_take preGr (i := 4) (v := ?_) (by kernel_rfl) (some 92) (by kernel_rfl) rfl (by kernel_rfl) (by kernel_rfl) (by kernel_rfl) (fun _ _ _ h => h) (by rfl) (fun w' hw' => ?_) rfl ?_
        rotate_left
        · have s1 := run_string_of (P := Try.prog) 24 9 5 Try.underlying24 Try.underlying5 Try.underlying9 (HR6.out.below ((Gr.drew we).trans hw'))
          have s2 := run_string_of (P := Try.prog) 24 9 5 Try.underlying24 Try.underlying5 Try.underlying9 (HVE.out.below ((Gr.drew we).trans hw'))
          go_simp
          with_reducible rfl
        simp only [Act.put, List.setIfInBounds_toArray, List.set_cons_zero, List.set_cons_succ]
        -- 5: slot 93
        refine wpG_take preGr (i := 5) (v := ?_) (by kernel_rfl) (some 93) (by kernel_rfl) rfl (by kernel_rfl) (by kernel_rfl) (by kernel_rfl) (fun _ _ _ h => h) (by rfl) (fun w' hw' => ?_) rfl ?_
        rotate_left
        · have s1 := run_string_of (P := Try.prog) 24 9 5 Try.underlying24 Try.underlying5 Try.underlying9 (HR6.out.below ((Gr.drew we).trans hw'))
          have s2 := run_string_of (P := Try.prog) 24 9 5 Try.underlying24 Try.underlying5 Try.underlying9 (HVE.out.below ((Gr.drew we).trans hw'))
          go_simp
          with_reducible rfl
        simp only [Act.put, List.setIfInBounds_toArray, List.set_cons_zero, List.set_cons_succ]
        -- 6: slot 94
        refine wpG_take preGr (i := 6) (v := ?_) (by kernel_rfl) (some 94) (by kernel_rfl) rfl (by kernel_rfl) (by kernel_rfl) (by kernel_rfl) (fun _ _ _ h => h) (by rfl) (fun w' hw' => ?_) rfl ?_
        rotate_left
        · have s1 := run_string_of (P := Try.prog) 24 9 5 Try.underlying24 Try.underlying5 Try.underlying9 (HR6.out.below ((Gr.drew we).trans hw'))
          have s2 := run_string_of (P := Try.prog) 24 9 5 Try.underlying24 Try.underlying5 Try.underlying9 (HVE.out.below ((Gr.drew we).trans hw'))
          go_simp
          with_reducible rfl
        simp only [Act.put, List.setIfInBounds_toArray, List.set_cons_zero, List.set_cons_succ]
        -- 7: slot 95
        refine wpG_take preGr (i := 7) (v := ?_) (by kernel_rfl) (some 95) (by kernel_rfl) rfl (by kernel_rfl) (by kernel_rfl) (by kernel_rfl) (fun _ _ _ h => h) (by rfl) (fun w' hw' => ?_) rfl ?_
        rotate_left
        · have s1 := run_string_of (P := Try.prog) 24 9 5 Try.underlying24 Try.underlying5 Try.underlying9 (HR6.out.below ((Gr.drew we).trans hw'))
          have s2 := run_string_of (P := Try.prog) 24 9 5 Try.underlying24 Try.underlying5 Try.underlying9 (HVE.out.below ((Gr.drew we).trans hw'))
          go_simp
          with_reducible rfl
        simp only [Act.put, List.setIfInBounds_toArray, List.set_cons_zero, List.set_cons_succ]
        -- 8: slot 96
        refine wpG_take preGr (i := 8) (v := ?_) (by kernel_rfl) (some 96) (by kernel_rfl) rfl (by kernel_rfl) (by kernel_rfl) (by kernel_rfl) (fun _ _ _ h => h) (by rfl) (fun w' hw' => ?_) rfl ?_
        rotate_left
        · have s1 := run_string_of (P := Try.prog) 24 9 5 Try.underlying24 Try.underlying5 Try.underlying9 (HR6.out.below ((Gr.drew we).trans hw'))
          have s2 := run_string_of (P := Try.prog) 24 9 5 Try.underlying24 Try.underlying5 Try.underlying9 (HVE.out.below ((Gr.drew we).trans hw'))
          go_simp
          with_reducible rfl
        simp only [Act.put, List.setIfInBounds_toArray, List.set_cons_zero, List.set_cons_succ]
        -- 9: slot 97
        refine wpG_take preGr (i := 9) (v := ?_) (by kernel_rfl) (some 97) (by kernel_rfl) rfl (by kernel_rfl) (by kernel_rfl) (by kernel_rfl) (fun _ _ _ h => h) (by rfl) (fun w' hw' => ?_) rfl ?_
        rotate_left
        · have s1 := run_string_of (P := Try.prog) 24 9 5 Try.underlying24 Try.underlying5 Try.underlying9 (HR6.out.below ((Gr.drew we).trans hw'))
          have s2 := run_string_of (P := Try.prog) 24 9 5 Try.underlying24 Try.underlying5 Try.underlying9 (HVE.out.below ((Gr.drew we).trans hw'))
          go_simp
          with_reducible rfl
        simp only [Act.put, List.setIfInBounds_toArray, List.set_cons_zero, List.set_cons_succ]
        -- 10: slot 98
        refine wpG_take preGr (i := 10) (v := ?_) (by kernel_rfl) (some 98) (by kernel_rfl) rfl (by kernel_rfl) (by kernel_rfl) (by kernel_rfl) (fun _ _ _ h => h) (by rfl) (fun w' hw' => ?_) rfl ?_
        rotate_left
        · have s1 := run_string_of (P := Try.prog) 24 9 5 Try.underlying24 Try.underlying5 Try.underlying9 (HR6.out.below ((Gr.drew we).trans hw'))
          have s2 := run_string_of (P := Try.prog) 24 9 5 Try.underlying24 Try.underlying5 Try.underlying9 (HVE.out.below ((Gr.drew we).trans hw'))
          go_simp
          with_reducible rfl
        simp only [Act.put, List.setIfInBounds_toArray, List.set_cons_zero, List.set_cons_succ]
        -- 11: slot 99
        refine wpG_take preGr (i := 11) (v := ?_) (by kernel_rfl) (some 99) (by kernel_rfl) rfl (by kernel_rfl) (by kernel_rfl) (by kernel_rfl) (fun _ _ _ h => h) (by rfl) (fun w' hw' => ?_) rfl ?_
        rotate_left
        · have s1 := run_string_of (P := Try.prog) 24 9 5 Try.underlying24 Try.underlying5 Try.underlying9 (HR6.out.below ((Gr.drew we).trans hw'))
          have s2 := run_string_of (P := Try.prog) 24 9 5 Try.underlying24 Try.underlying5 Try.underlying9 (HVE.out.below ((Gr.drew we).trans hw'))
          go_simp
          with_reducible rfl
        simp only [Act.put, List.setIfInBounds_toArray, List.set_cons_zero, List.set_cons_succ]
        -- 12: slot 100
        refine wpG_take preGr (i := 12) (v := ?_) (by kernel_rfl) (some 100) (by kernel_rfl) rfl (by kernel_rfl) (by kernel_rfl) (by kernel_rfl) (fun _ _ _ h => h) (by rfl) (fun w' hw' => ?_) rfl ?_
        rotate_left
        · have s1 := run_string_of (P := Try.prog) 24 9 5 Try.underlying24 Try.underlying5 Try.underlying9 (HR6.out.below ((Gr.drew we).trans hw'))
          have s2 := run_string_of (P := Try.prog) 24 9 5 Try.underlying24 Try.underlying5 Try.underlying9 (HVE.out.below ((Gr.drew we).trans hw'))
          go_simp
          with_reducible rfl
        simp only [Act.put, List.setIfInBounds_toArray, List.set_cons_zero, List.set_cons_succ]
        -- 13: slot 101
        refine wpG_take preGr (i := 13) (v := ?_) (by kernel_rfl) (some 101) (by kernel_rfl) rfl (by kernel_rfl) (by kernel_rfl) (by kernel_rfl) (fun _ _ _ h => h) (by rfl) (fun w' hw' => ?_) rfl ?_
        rotate_left
        · have s1 := run_string_of (P := Try.prog) 24 9 5 Try.underlying24 Try.underlying5 Try.underlying9 (HR6.out.below ((Gr.drew we).trans hw'))
          have s2 := run_string_of (P := Try.prog) 24 9 5 Try.underlying24 Try.underlying5 Try.underlying9 (HVE.out.below ((Gr.drew we).trans hw'))
          go_simp
          with_reducible rfl
        simp only [Act.put, List.setIfInBounds_toArray, List.set_cons_zero, List.set_cons_succ]
        -- 14: slot 102
        refine wpG_take preGr (i := 14) (v := ?_) (by kernel_rfl) (some 102) (by kernel_rfl) rfl (by kernel_rfl) (by kernel_rfl) (by kernel_rfl) (fun _ _ _ h => h) (by rfl) (fun w' hw' => ?_) rfl ?_
        rotate_left
        · have s1 := run_string_of (P := Try.prog) 24 9 5 Try.underlying24 Try.underlying5 Try.underlying9 (HR6.out.below ((Gr.drew we).trans hw'))
          have s2 := run_string_of (P := Try.prog) 24 9 5 Try.underlying24 Try.underlying5 Try.underlying9 (HVE.out.below ((Gr.drew we).trans hw'))
          go_simp
          with_reducible rfl
        simp only [Act.put, List.setIfInBounds_toArray, List.set_cons_zero, List.set_cons_succ]
        -- 15: slot 103
        refine wpG_take preGr (i := 15) (v := ?_) (by kernel_rfl) (some 103) (by kernel_rfl) rfl (by kernel_rfl) (by kernel_rfl) (by kernel_rfl) (fun _ _ _ h => h) (by rfl) (fun w' hw' => ?_) rfl ?_
        rotate_left
        · have s1 := run_string_of (P := Try.prog) 24 9 5 Try.underlying24 Try.underlying5 Try.underlying9 (HR6.out.below ((Gr.drew we).trans hw'))
          have s2 := run_string_of (P := Try.prog) 24 9 5 Try.underlying24 Try.underlying5 Try.underlying9 (HVE.out.below ((Gr.drew we).trans hw'))
          go_simp
          with_reducible rfl
        simp only [Act.put, List.setIfInBounds_toArray, List.set_cons_zero, List.set_cons_succ]
        -- 16: slot 104
        refine wpG_take preGr (i := 16) (v := ?_) (by kernel_rfl) (some 104) (by kernel_rfl) rfl (by kernel_rfl) (by kernel_rfl) (by kernel_rfl) (fun _ _ _ h => h) (by rfl) (fun w' hw' => ?_) rfl ?_
        rotate_left
        · have s1 := run_string_of (P := Try.prog) 24 9 5 Try.underlying24 Try.underlying5 Try.underlying9 (HR6.out.below ((Gr.drew we).trans hw'))
          have s2 := run_string_of (P := Try.prog) 24 9 5 Try.underlying24 Try.underlying5 Try.underlying9 (HVE.out.below ((Gr.drew we).trans hw'))
          go_simp
          with_reducible rfl
        simp only [Act.put, List.setIfInBounds_toArray, List.set_cons_zero, List.set_cons_succ]
        -- 17: slot 105
        refine wpG_take preGr (i := 17) (v := ?_) (by kernel_rfl) (some 105) (by kernel_rfl) rfl (by kernel_rfl) (by kernel_rfl) (by kernel_rfl) (fun _ _ _ h => h) (by rfl) (fun w' hw' => ?_) rfl ?_
        rotate_left
        · have s1 := run_string_of (P := Try.prog) 24 9 5 Try.underlying24 Try.underlying5 Try.underlying9 (HR6.out.below ((Gr.drew we).trans hw'))
          have s2 := run_string_of (P := Try.prog) 24 9 5 Try.underlying24 Try.underlying5 Try.underlying9 (HVE.out.below ((Gr.drew we).trans hw'))
          go_simp
          with_reducible rfl
        simp only [Act.put, List.setIfInBounds_toArray, List.set_cons_zero, List.set_cons_succ]
        -- 18: slot 106
        refine wpG_take preGr (i := 18) (v := ?_) (by kernel_rfl) (some 106) (by kernel_rfl) rfl (by kernel_rfl) (by kernel_rfl) (by kernel_rfl) (fun _ _ _ h => h) (by rfl) (fun w' hw' => ?_) rfl ?_
        rotate_left
        · have s1 := run_string_of (P := Try.prog) 24 9 5 Try.underlying24 Try.underlying5 Try.underlying9 (HR6.out.below ((Gr.drew we).trans hw'))
          have s2 := run_string_of (P := Try.prog) 24 9 5 Try.underlying24 Try.underlying5 Try.underlying9 (HVE.out.below ((Gr.drew we).trans hw'))
          go_simp
          with_reducible rfl
        simp only [Act.put, List.setIfInBounds_toArray, List.set_cons_zero, List.set_cons_succ]
        refine wpG_done (by kernel_rfl) ?_ _
        have sb := run_string_of (P := Try.prog) 24 9 5 Try.underlying24 Try.underlying5 Try.underlying9 (HUE.out.below (Gr.drew we))
        have HJ : Hid (JI W we.drew w7.heap.size Am N Cm ts) := by
          have := HTE.out.below (Gr.drew we)
          exact JI.start (by rw [HN.out]; exact this) HN.out HSZ.out HBE.out.drew
        clear qm qi hs6 HVE HR6 HTE HUE HBE HTO HBM
        go_wp2
        go_loopw [19] (fun iv wr => ∃ i : Nat, i ≤ N ∧ iv = .int .i64 i ∧ Hid (JI W wr w7.heap.size Am N Cm ts)) (fun iv _ => N - (intOf iv).toNat)
        case atStart => exact ⟨0, Nat.zero_le _, rfl, HJ⟩
        case round =>
          clear HJ sb
          obtain ⟨i, hi, rfl, HJ⟩ := hrel
          by_cases hlt : i < N
          · obtain ⟨b, o, eA⟩ := HJ.out.start_at (by omega)
            subst eA
            have hiT : i < ts.length := by rw [← HN.out]; exact hlt
            obtain ⟨Av, Lv, Cv, hv, hLv, hLm⟩ := HJ.out.val_at i hiT
            have HV := Lib.hid hv
            have HLV := Lib.hid hLv
            unfold maxLen at hLm
            obtain ⟨wA, hA⟩ : ∃ x, x = wr := ⟨_, rfl⟩
            subst hA
            clear hv hLv
            go_wp2
            go_loopw [20] (fun kv wr => ∃ k : Nat, k ≤ Lv ∧ kv = .int .i64 k ∧ Hid (JI W wr w7.heap.size (some ⟨b, o, none⟩) N Cm ts)) (fun kv _ => Lv - (intOf kv).toNat)
            case atStart => exact ⟨0, Nat.zero_le _, rfl, HJ⟩
            case round =>
              clear HJ
              obtain ⟨k, hk, rfl, HJ⟩ := hrel
              have hcl := HJ.out.cell_at i hiT
              rw [HV.out] at hcl
              by_cases hkl : k < Lv
              · obtain ⟨g, eg, z, hz, hfz, hJ2⟩ := HJ.out.poke i hiT HV.out k hkl
                subst eg
                have hz8 := UInt8.toNat_lt z
                obtain ⟨t, ht⟩ : ∃ t : UInt8, t = UInt8.ofNat (z.toNat ^^^ 255) := ⟨_, rfl⟩
                have e1 := u8_xor_nat z.toNat 255 hz8 (by decide)
                have hx8 : z.toNat ^^^ 255 < 256 := Nat.xor_lt_two_pow (n := 8) hz8 (by decide)
                have e2 : ((z.toNat ^^^ 255 : Nat) : Int) = (t.toNat : Int) := by rw [ht, UInt8.toNat_ofNat', Nat.mod_eq_of_lt hx8]
                rw [e2] at e1
                have e3 : bits .xor .u8 (z.toNat : Int) 255 = (t.toNat : Int) := e1
                have HJ2 := Lib.hid (hJ2 t)
                have ht8 := UInt8.toNat_lt t
                generalize z.toNat = zn at hz e3 hz8
                generalize t.toNat = tn at e3 HJ2 ht8
                have ilt : (i : Int) < (N : Int) := by omega
                have klt : (k : Int) < (Lv : Int) := by omega
                clear ht e1 e2 hx8 hJ2
                go_wp2
                go_roundw
                case rel =>
                  first | exact ⟨k + 1, by omega, by go_num, HJ2⟩ | ((repeat apply Exists.intro); exact ⟨⟨k + 1, by omega, by go_num, HJ2⟩, rfl⟩)
                case measure => simp [intOf]; omega
              · obtain rfl : Lv = k := by omega
                go_wp2
                go_roundw
                case rel =>
                  first | exact ⟨i + 1, by omega, by go_num, HJ⟩ | ((repeat apply Exists.intro); exact ⟨⟨i + 1, by omega, by go_num, HJ⟩, rfl⟩)
                case measure => simp [intOf]; omega
          · obtain rfl : N = i := by omega
            have HBJ := Lib.hid HJ.out.low
            have sb := run_string_of (P := Try.prog) 24 9 5 Try.underlying24 Try.underlying5 Try.underlying9 (HU1.out.below HBJ.out)
            go_wp2_with fail
            refine (AW.out wr).mono ?_
            rintro e wf ⟨rfl, hbf⟩
            have HBF := Lib.hid (HBJ.out.trans (hbf.mono HBJ.out.size))
            clear hbf
            go_wp2
            go_ret
            exact ⟨rfl, HBF.out⟩
      · have hq0' : (q != 0) = true := by rw [bne_iff_ne]; exact hq0
        have hnil : plain ts = [] := by rw [HTS.out]; exact dec_err (by rw [← HQ.out]; exact hq0)
        have hN0 : N = 0 := by rw [HN.out, ← plain_length, hnil]; rfl
        subst hN0
        clear hnil
        go_wp2_with fail
        refine (AW.out wm).mono ?_
        rintro e wf ⟨rfl, hbf⟩
        have HBF := Lib.hid (HBM.out.trans (hbf.mono HBM.out.size))
        clear hbf
        go_wp2
        go_ret
        exact ⟨rfl, HBF.out⟩
  · have hp0' : (p == 0) = false := by rw [beq_eq_false_iff_ne]; exact hp0
    have D := Lib.hid (decode_any a1 m1 c1 x1 HX1.out w2 (HU1.out.below HB2.out) (by omega))
    go_wp2_with fail
    refine D.out.mono ?_
    rintro e wm ⟨vm, rfl, ⟨ts, hts, hto⟩, hbm⟩
    have HBM := Lib.hid (HB2.out.trans (hbm.mono HB2.out.size))
    have HSZ : Hid (W.heap.size ≤ w2.heap.size) := HB2.out.size
    obtain ⟨Am, Cm, ev, _, _⟩ := hto.tr.shape
    subst ev
    have HTO := Lib.hid hto
    have HTS := Lib.hid hts
    obtain ⟨N, hN⟩ : ∃ N, N = ts.length := ⟨_, rfl⟩
    have HN := Lib.hid hN
    rw [← hN]
    obtain ⟨q, hq⟩ : ∃ q, q = (dec x1).2 := ⟨_, rfl⟩
    have HQ := Lib.hid hq
    rw [← hq]
    clear hto hts hbm hN hq D
    by_cases hq0 : q = 0
    · have HD0 : Hid (dec x1 = (plain ts, 0)) := Prod.ext HTS.out.symm (by rw [← HQ.out]; exact hq0)
      subst hq0
      obtain ⟨he0, r, hr⟩ := dec_again HD0.out
      have HE0 := Lib.hid he0
      have hz := encE_zero he0
      have hN64 : N ≤ 64 := by rw [HN.out, ← plain_length]; exact hz.1
      have hsm : ∀ t ∈ ts, t.l.length ≤ 1000000 := fun t ht => by
        have h1 : isT t.plain := hz.2.1 _ (List.mem_map.2 ⟨t, ht, rfl⟩)
        have h2 : t.l.length ≤ 65535 := h1.2.2
        omega
      have htr : TR wm (.slice Am N Cm) N ts := by
        have := HTO.out.tr
        rw [← HN.out] at this
        exact this
      have E := Lib.hid (encode_any Am N Cm ts wm htr (by omega) hsm)
      obtain ⟨y, hy⟩ : ∃ y, y = wireT (plain ts) := ⟨_, rfl⟩
      obtain ⟨L, hL⟩ : ∃ L, L = y.length := ⟨_, rfl⟩
      have hLm : L ≤ m1 := by
        have := congrArg List.length hr
        rw [List.length_append, ← hy, ← hL, HX1.out] at this
        omega
      have HTK : Hid (x1.take L = y) := by
        show _ = _
        rw [← hr, ← hy, hL, List.take_left']
        rfl
      have HY := Lib.hid hy
      have HL := Lib.hid hL
      clear he0 hr hz hsm htr hy hL
      go_wp2_with fail
      refine E.out.mono ?_
      rintro e we ⟨ve, rfl, howne, hbe⟩
      rw [encB_yes HE0.out, ← HY.out] at howne
      rw [HE0.out]
      have HBE := Lib.hid (HBM.out.trans (hbe.mono HBM.out.size))
      have HTE := Lib.hid (HTO.out.below hbe)
      have HVE := Lib.hid howne.bs
      have HUE := Lib.hid (HU1.out.below HBE.out)
      obtain ⟨Ae, Le, Ce, ev, hLe, _, _⟩ := howne.bs.sl
      subst ev
      obtain rfl : Le = L := by rw [HL.out]; exact hLe.symm
      have hrd : Rd we 1 (.slice a1 m1 c1) m1 (x1.map u8v) := by
        have := HUE.out
        unfold Bs at this
        rw [HX1.out] at this
        exact this
      obtain ⟨a6, hs6, hr6⟩ := slice_upto (P := Try.prog) Try.underlying24 hj hy1 hrd .i64 Le Le rfl hLm
      rw [take_u8', HTK.out] at hr6
      have HR6 : Hid (Bs we (.slice a6 Le c1) y) := Bs.of_rd hr6 rfl
      have qm : decide (m1 < Le) = false := by rw [decide_eq_false_iff_not]; omega
      have qi : decide ((m1 : Int) < (Le : Int)) = false := by rw [decide_eq_false_iff_not]; omega
      clear howne hbe hLe hrd hr6 E
      go_wp2_with fail
      refine wp_region_G 19 Gr (by kernel_rfl) ?_
      -- 0: slot 88
      refine wpG_take preGr (i := 0) (v := ?_) (by kernel_rfl) (some 88) (by kernel_rfl) rfl (by kernel_rfl) (by kernel_rfl) (by kernel_rfl) (fun _ _ _ h => h) (by rfl) (fun w' hw' => ?_) rfl ?_
      rotate_left
      · have s1 := run_string_of (P := Try.prog) 24 9 5 Try.underlying24 Try.underlying5 Try.underlying9 (HR6.out.below ((Gr.drew we).trans hw'))
        have s2 := run_string_of (P := Try.prog) 24 9 5 Try.underlying24 Try.underlying5 Try.underlying9 (HVE.out.below ((Gr.drew we).trans hw'))
        go_simp
        with_reducible rfl
      simp only [Act.put, List.setIfInBounds_toArray, List.set_cons_zero, List.set_cons_succ]
      -- 1: slot 89
      refine wpG_take preGr (i := 1) (v := ?_) (by kernel_rfl) (some 89) (by kernel_rfl) rfl (by kernel_rfl) (by kernel_rfl) (by kernel_rfl) (fun _ _ _ h => h) (by rfl) (fun w' hw' => ?_) rfl ?_
      rotate_left
      · have s1 := run_string_of (P := Try.prog) 24 9 5 Try.underlying24 Try.underlying5 Try.underlying9 (HR6.out.below ((Gr.drew we).trans hw'))
        have s2 := run_string_of (P := Try.prog) 24 9 5 Try.underlying24 Try.underlying5 Try.underlying9 (HVE.out.below ((Gr.drew we).trans hw'))
        go_simp
        with_reducible rfl
      simp only [Act.put, List.setIfInBounds_toArray, List.set_cons_zero, List.set_cons_succ]
      -- 2: slot 90
      refine wpG_take preGr (i := 2) (v := ?_) (by kernel_rfl) (some 90) (by kernel_rfl) rfl (by kernel_rfl) (by kernel_rfl) (by kernel_rfl) (fun _ _ _ h => h) (by rfl) (fun w' hw' => ?_) rfl ?_
      rotate_left
      · have s1 := run_string_of (P := Try.prog) 24 9 5 Try.underlying24 Try.underlying5 Try.underlying9 (HR6.out.below ((Gr.drew we).trans hw'))
        have s2 := run_string_of (P := Try.prog) 24 9 5 Try.underlying24 Try.underlying5 Try.underlying9 (HVE.out.below ((Gr.drew we).trans hw'))
        go_simp
        with_reducible rfl
      simp only [Act.put, List.setIfInBounds_toArray, List.set_cons_zero, List.set_cons_succ]
      -- 3: slot 91
      refine wpG_take preGr (i := 3) (v := ?_) (by kernel_rfl) (some 91) (by kernel_rfl) rfl (by kernel_rfl) (by kernel_rfl) (by kernel_rfl) (fun _ _ _ h => h) (by rfl) (fun w' hw' => ?_) rfl ?_
      rotate_left
      · have s1 := run_string_of (P := Try.prog) 24 9 5 Try.underlying24 Try.underlying5 Try.underlying9 (HR6.out.below ((Gr.drew we).trans hw'))
        have s2 := run_string_of (P := Try.prog) 24 9 5 Try.underlying24 Try.underlying5 Try.underlying9 (HVE.out.below ((Gr.drew we).trans hw'))
        go_simp
        with_reducible rfl
      simp only [Act.put, List.setIfInBounds_toArray, List.set_cons_zero, List.set_cons_succ]
      -- 4: slot 92
      refine wpG_take preGr (i := 4) (v := ?_) (by kernel_rfl) (some 92) (by kernel_rfl) rfl (by kernel_rfl) (by kernel_rfl) (by kernel_rfl) (fun _ _ _ h => h) (by rfl) (fun w' hw' => ?_) rfl ?_
      rotate_left
      · have s1 := run_string_of (P := Try.prog) 24 9 5 Try.underlying24 Try.underlying5 Try.underlying9 (HR6.out.below ((Gr.drew we).trans hw'))
        have s2 := run_string_of (P := Try.prog) 24 9 5 Try.underlying24 Try.underlying5 Try.underlying9 (HVE.out.below ((Gr.drew we).trans hw'))
        go_simp
        with_reducible rfl
      simp only [Act.put, List.setIfInBounds_toArray, List.set_cons_zero, List.set_cons_succ]
      -- 5: slot 93
      refine wpG_take preGr (i := 5) (v := ?_) (by kernel_rfl) (some 93) (by kernel_rfl) rfl (by kernel_rfl) (by kernel_rfl) (by kernel_rfl) (fun _ _ _ h => h) (by rfl) (fun w' hw' => ?_) rfl ?_
      rotate_left
      · have s1 := run_string_of (P := Try.prog) 24 9 5 Try.underlying24 Try.underlying5 Try.underlying9 (HR6.out.below ((Gr.drew we).trans hw'))
        have s2 := run_string_of (P := Try.prog) 24 9 5 Try.underlying24 Try.underlying5 Try.underlying9 (HVE.out.below ((Gr.drew we).trans hw'))
        go_simp
        with_reducible rfl
      simp only [Act.put, List.setIfInBounds_toArray, List.set_cons_zero, List.set_cons_succ]
      -- 6: slot 94
      refine wpG_take preGr (i := 6) (v := ?_) (by kernel_rfl) (some 94) (by kernel_rfl) rfl (by kernel_rfl) (by kernel_rfl) (by kernel_rfl) (fun _ _ _ h => h) (by rfl) (fun w' hw' => ?_) rfl ?_
      rotate_left
      · have s1 := run_string_of (P := Try.prog) 24 9 5 Try.underlying24 Try.underlying5 Try.underlying9 (HR6.out.below ((Gr.drew we).trans hw'))
        have s2 := run_string_of (P := Try.prog) 24 9 5 Try.underlying24 Try.underlying5 Try.underlying9 (HVE.out.below ((Gr.drew we).trans hw'))
        go_simp
        with_reducible rfl
      simp only [Act.put, List.setIfInBounds_toArray, List.set_cons_zero, List.set_cons_succ]
      -- 7: slot 95
      refine wpG_take preGr (i := 7) (v := ?_) (by kernel_rfl) (some 95) (by kernel_rfl) rfl (by kernel_rfl) (by kernel_rfl) (by kernel_rfl) (fun _ _ _ h => h) (by rfl) (fun w' hw' => ?_) rfl ?_
      rotate_left
      · have s1 := run_string_of (P := Try.prog) 24 9 5 Try.underlying24 Try.underlying5 Try.underlying9 (HR6.out.below ((Gr.drew we).trans hw'))
        have s2 := run_string_of (P := Try.prog) 24 9 5 Try.underlying24 Try.underlying5 Try.underlying9 (HVE.out.below ((Gr.drew we).trans hw'))
        go_simp
        with_reducible rfl
      simp only [Act.put, List.setIfInBounds_toArray, List.set_cons_zero, List.set_cons_succ]
      -- 8: slot 96
      refine wpG_take preGr (i := 8) (v := ?_) (by kernel_rfl) (some 96) (by kernel_rfl) rfl (by kernel_rfl) (by kernel_rfl) (by kernel_rfl) (fun _ _ _ h => h) (by rfl) (fun w' hw' => ?_) rfl ?_
      rotate_left
      · have s1 := run_string_of (P := Try.prog) 24 9 5 Try.underlying24 Try.underlying5 Try.underlying9 (HR6.out.below ((Gr.drew we).trans hw'))
        have s2 := run_string_of (P := Try.prog) 24 9 5 Try.underlying24 Try.underlying5 Try.underlying9 (HVE.out.below ((Gr.drew we).trans hw'))
        go_simp
        with_reducible rfl
      simp only [Act.put, List.setIfInBounds_toArray, List.set_cons_zero, List.set_cons_succ]
      -- 9: slot 97
      refine wpG_take preGr (i := 9) (v := ?_) (by kernel_rfl) (some 97) (by kernel_rfl) rfl (by kernel_rfl) (by kernel_rfl) (by kernel_rfl) (fun _ _ _ h => h) (by rfl) (fun w' hw' => ?_) rfl ?_
      rotate_left
      · have s1 := run_string_of (P := Try.prog) 24 9 5 Try.underlying24 Try.underlying5 Try.underlying9 (HR6.out.below ((Gr.drew we).trans hw'))
        have s2 := run_string_of (P := Try.prog) 24 9 5 Try.underlying24 Try.underlying5 Try.underlying9 (HVE.out.below ((Gr.drew we).trans hw'))
        go_simp
        with_reducible rfl
      simp only [Act.put, List.setIfInBounds_toArray, List.set_cons_zero, List.set_cons_succ]
      -- 10: slot 98
      refine wpG_take preGr (i := 10) (v := ?_) (by kernel_rfl) (some 98) (by kernel_rfl) rfl (by kernel_rfl) (by kernel_rfl) (by kernel_rfl) (fun _ _ _ h => h) (by rfl) (fun w' hw' => ?_) rfl ?_
      rotate_left
      · have s1 := run_string_of (P := Try.prog) 24 9 5 Try.underlying24 Try.underlying5 Try.underlying9 (HR6.out.below ((Gr.drew we).trans hw'))
        have s2 := run_string_of (P := Try.prog) 24 9 5 Try.underlying24 Try.underlying5 Try.underlying9 (HVE.out.below ((Gr.drew we).trans hw'))
        go_simp
        with_reducible rfl
      simp only [Act.put, List.setIfInBounds_toArray, List.set_cons_zero, List.set_cons_succ]
      -- 11: slot 99
      refine wpG_take preGr (i := 11) (v := ?_) (by kernel_rfl) (some 99) (by kernel_rfl) rfl (by kernel_rfl) (by kernel_rfl) (by kernel_rfl) (fun _ _ _ h => h) (by rfl) (fun w' hw' => ?_) rfl ?_
      rotate_left
      · have s1 := run_string_of (P := Try.prog) 24 9 5 Try.underlying24 Try.underlying5 Try.underlying9 (HR6.out.below ((Gr.drew we).trans hw'))
        have s2 := run_string_of (P := Try.prog) 24 9 5 Try.underlying24 Try.underlying5 Try.underlying9 (HVE.out.below ((Gr.drew we).trans hw'))
        go_simp
        with_reducible rfl
      simp only [Act.put, List.setIfInBounds_toArray, List.set_cons_zero, List.set_cons_succ]
      -- 12: slot 100
      refine wpG_take preGr (i := 12) (v := ?_) (by kernel_rfl) (some 100) (by kernel_rfl) rfl (by kernel_rfl) (by kernel_rfl) (by kernel_rfl) (fun _ _ _ h => h) (by rfl) (fun w' hw' => ?_) rfl ?_
      rotate_left
      · have s1 := run_string_of (P := Try.prog) 24 9 5 Try.underlying24 Try.underlying5 Try.underlying9 (HR6.out.below ((Gr.drew we).trans hw'))
        have s2 := run_string_of (P := Try.prog) 24 9 5 Try.underlying24 Try.underlying5 Try.underlying9 (HVE.out.below ((Gr.drew we).trans hw'))
        go_simp
        with_reducible rfl
      simp only [Act.put, List.setIfInBounds_toArray, List.set_cons_zero, List.set_cons_succ]
      -- 13: slot 101
      refine wpG_take preGr (i := 13) (v := ?_) (by kernel_rfl) (some 101) (by kernel_rfl) rfl (by kernel_rfl) (by kernel_rfl) (by kernel_rfl) (fun _ _ _ h => h) (by rfl) (fun w' hw' => ?_) rfl ?_
      rotate_left
      · have s1 := run_string_of (P := Try.prog) 24 9 5 Try.underlying24 Try.underlying5 Try.underlying9 (HR6.out.below ((Gr.drew we).trans hw'))
        have s2 := run_string_of (P := Try.prog) 24 9 5 Try.underlying24 Try.underlying5 Try.underlying9 (HVE.out.below ((Gr.drew we).trans hw'))
        go_simp
        with_reducible rfl
      simp only [Act.put, List.setIfInBounds_toArray, List.set_cons_zero, List.set_cons_succ]
      -- 14: slot 102
      refine wpG_take preGr (i := 14) (v := ?_) (by kernel_rfl) (some 102) (by kernel_rfl) rfl (by kernel_rfl) (by kernel_rfl) (by kernel_rfl) (fun _ _ _ h => h) (by rfl) (fun w' hw' => ?_) rfl ?_
      rotate_left
      · have s1 := run_string_of (P := Try.prog) 24 9 5 Try.underlying24 Try.underlying5 Try.underlying9 (HR6.out.below ((Gr.drew we).trans hw'))
        have s2 := run_string_of (P := Try.prog) 24 9 5 Try.underlying24 Try.underlying5 Try.underlying9 (HVE.out.below ((Gr.drew we).trans hw'))
        go_simp
        with_reducible rfl
      simp only [Act.put, List.setIfInBounds_toArray, List.set_cons_zero, List.set_cons_succ]
      -- 15: slot 103
      refine wpG_take preGr (i := 15) (v := ?_) (by kernel_rfl) (some 103) (by kernel_rfl) rfl (by kernel_rfl) (by kernel_rfl) (by kernel_rfl) (fun _ _ _ h => h) (by rfl) (fun w' hw' => ?_) rfl ?_
      rotate_left
      · have s1 := run_string_of (P := Try.prog) 24 9 5 Try.underlying24 Try.underlying5 Try.underlying9 (HR6.out.below ((Gr.drew we).trans hw'))
        have s2 := run_string_of (P := Try.prog) 24 9 5 Try.underlying24 Try.underlying5 Try.underlying9 (HVE.out.below ((Gr.drew we).trans hw'))
        go_simp
        with_reducible rfl
      simp only [Act.put, List.setIfInBounds_toArray, List.set_cons_zero, List.set_cons_succ]
      -- 16: slot 104
      refine wpG_take preGr (i := 16) (v := ?_) (by kernel_rfl) (some 104) (by kernel_rfl) rfl (by kernel_rfl) (by kernel_rfl) (by kernel_rfl) (fun _ _ _ h => h) (by rfl) (fun w' hw' => ?_) rfl ?_
      rotate_left
      · have s1 := run_string_of (P := Try.prog) 24 9 5 Try.underlying24 Try.underlying5 Try.underlying9 (HR6.out.below ((Gr.drew we).trans hw'))
        have s2 := run_string_of (P := Try.prog) 24 9 5 Try.underlying24 Try.underlying5 Try.underlying9 (HVE.out.below ((Gr.drew we).trans hw'))
        go_simp
        with_reducible rfl
      simp only [Act.put, List.setIfInBounds_toArray, List.set_cons_zero, List.set_cons_succ]
      -- 17: slot 105
      refine wpG_take preGr (i := 17) (v := ?_) (by kernel_rfl) (some 105) (by kernel_rfl) rfl (by kernel_rfl) (by kernel_rfl) (by kernel_rfl) (fun _ _ _ h => h) (by rfl) (fun w' hw' => ?_) rfl ?_
      rotate_left
      · have s1 := run_string_of (P := Try.prog) 24 9 5 Try.underlying24 Try.underlying5 Try.underlying9 (HR6.out.below ((Gr.drew we).trans hw'))
        have s2 := run_string_of (P := Try.prog) 24 9 5 Try.underlying24 Try.underlying5 Try.underlying9 (HVE.out.below ((Gr.drew we).trans hw'))
        go_simp
        with_reducible rfl
      simp only [Act.put, List.setIfInBounds_toArray, List.set_cons_zero, List.set_cons_succ]
      -- 18: slot 106
      refine wpG_take preGr (i := 18) (v := ?_) (by kernel_rfl) (some 106) (by kernel_rfl) rfl (by kernel_rfl) (by kernel_rfl) (by kernel_rfl) (fun _ _ _ h => h) (by rfl) (fun w' hw' => ?_) rfl ?_
      rotate_left
      · have s1 := run_string_of (P := Try.prog) 24 9 5 Try.underlying24 Try.underlying5 Try.underlying9 (HR6.out.below ((Gr.drew we).trans hw'))
        have s2 := run_string_of (P := Try.prog) 24 9 5 Try.underlying24 Try.underlying5 Try.underlying9 (HVE.out.below ((Gr.drew we).trans hw'))
        go_simp
        with_reducible rfl
      simp only [Act.put, List.setIfInBounds_toArray, List.set_cons_zero, List.set_cons_succ]
      refine wpG_done (by kernel_rfl) ?_ _
      have sb := run_string_of (P := Try.prog) 24 9 5 Try.underlying24 Try.underlying5 Try.underlying9 (HUE.out.below (Gr.drew we))
      have HJ : Hid (JI W we.drew w2.heap.size Am N Cm ts) := by
        have := HTE.out.below (Gr.drew we)
        exact JI.start (by rw [HN.out]; exact this) HN.out HSZ.out HBE.out.drew
      clear qm qi hs6 HVE HR6 HTE HUE HBE HTO HBM
      go_wp2
      go_loopw [19] (fun iv wr => ∃ i : Nat, i ≤ N ∧ iv = .int .i64 i ∧ Hid (JI W wr w2.heap.size Am N Cm ts)) (fun iv _ => N - (intOf iv).toNat)
      case atStart => exact ⟨0, Nat.zero_le _, rfl, HJ⟩
      case round =>
        clear HJ sb
        obtain ⟨i, hi, rfl, HJ⟩ := hrel
        by_cases hlt : i < N
        · obtain ⟨b, o, eA⟩ := HJ.out.start_at (by omega)
          subst eA
          have hiT : i < ts.length := by rw [← HN.out]; exact hlt
          obtain ⟨Av, Lv, Cv, hv, hLv, hLm⟩ := HJ.out.val_at i hiT
          have HV := Lib.hid hv
          have HLV := Lib.hid hLv
          unfold maxLen at hLm
          obtain ⟨wA, hA⟩ : ∃ x, x = wr := ⟨_, rfl⟩
          subst hA
          clear hv hLv
          go_wp2
          go_loopw [20] (fun kv wr => ∃ k : Nat, k ≤ Lv ∧ kv = .int .i64 k ∧ Hid (JI W wr w2.heap.size (some ⟨b, o, none⟩) N Cm ts)) (fun kv _ => Lv - (intOf kv).toNat)
          case atStart => exact ⟨0, Nat.zero_le _, rfl, HJ⟩
          case round =>
            clear HJ
            obtain ⟨k, hk, rfl, HJ⟩ := hrel
            have hcl := HJ.out.cell_at i hiT
            rw [HV.out] at hcl
            by_cases hkl : k < Lv
            · obtain ⟨g, eg, z, hz, hfz, hJ2⟩ := HJ.out.poke i hiT HV.out k hkl
              subst eg
              have hz8 := UInt8.toNat_lt z
              obtain ⟨t, ht⟩ : ∃ t : UInt8, t = UInt8.ofNat (z.toNat ^^^ 255) := ⟨_, rfl⟩
              have e1 := u8_xor_nat z.toNat 255 hz8 (by decide)
              have hx8 : z.toNat ^^^ 255 < 256 := Nat.xor_lt_two_pow (n := 8) hz8 (by decide)
              have e2 : ((z.toNat ^^^ 255 : Nat) : Int) = (t.toNat : Int) := by rw [ht, UInt8.toNat_ofNat', Nat.mod_eq_of_lt hx8]
              rw [e2] at e1
              have e3 : bits .xor .u8 (z.toNat : Int) 255 = (t.toNat : Int) := e1
              have HJ2 := Lib.hid (hJ2 t)
              have ht8 := UInt8.toNat_lt t
              generalize z.toNat = zn at hz e3 hz8
              generalize t.toNat = tn at e3 HJ2 ht8
              have ilt : (i : Int) < (N : Int) := by omega
              have klt : (k : Int) < (Lv : Int) := by omega
              clear ht e1 e2 hx8 hJ2
              go_wp2
              go_roundw
              case rel =>
                first | exact ⟨k + 1, by omega, by go_num, HJ2⟩ | ((repeat apply Exists.intro); exact ⟨⟨k + 1, by omega, by go_num, HJ2⟩, rfl⟩)
              case measure => simp [intOf]; omega
            · obtain rfl : Lv = k := by omega
              go_wp2
              go_roundw
              case rel =>
                first | exact ⟨i + 1, by omega, by go_num, HJ⟩ | ((repeat apply Exists.intro); exact ⟨⟨i + 1, by omega, by go_num, HJ⟩, rfl⟩)
              case measure => simp [intOf]; omega
        · obtain rfl : N = i := by omega
          have HBJ := Lib.hid HJ.out.low
          have sb := run_string_of (P := Try.prog) 24 9 5 Try.underlying24 Try.underlying5 Try.underlying9 (HU1.out.below HBJ.out)
          go_wp2_with fail
          refine (AW.out wr).mono ?_
          rintro e wf ⟨rfl, hbf⟩
          have HBF := Lib.hid (HBJ.out.trans (hbf.mono HBJ.out.size))
          clear hbf
          go_wp2
          go_ret
          exact ⟨rfl, HBF.out⟩
    · have hq0' : (q != 0) = true := by rw [bne_iff_ne]; exact hq0
      have hnil : plain ts = [] := by rw [HTS.out]; exact dec_err (by rw [← HQ.out]; exact hq0)
      have hN0 : N = 0 := by rw [HN.out, ← plain_length, hnil]; rfl
      subst hN0
      clear hnil
      go_wp2_with fail
      refine (AW.out wm).mono ?_
      rintro e wf ⟨rfl, hbf⟩
      have HBF := Lib.hid (HBM.out.trans (hbf.mono HBM.out.size))
      clear hbf
      go_wp2
      go_ret
      exact ⟨rfl, HBF.out⟩

theorem own : ownKnob Try.prog.godebug = none := by kernel_rfl
theorem laidOut : laidOutB Try.prog = true := by kernel_rfl
set_option maxRecDepth 100000 in
theorem lifted (os : Os) (started : os.Started) (H : Type) (enc : TypeId × Value → H) :
    ReturnsInHanded {} Try.checked os 7 .any (Rows.tagsBackSpec.pre6 enc Try.prog Try.f7 Rows.tagsBackRow.domain false) (Rows.tagsBackSpec.post enc Try.prog Try.f7 false true false false) := by
  refine returnsInHanded_of_change (C := Try.checked) own started (by kernel_rfl) Try.func7
    (ChangeSpec.witness6 (enc := enc) (C := Try.checked) false ⟨#[], #[.slice none 0 0, .slice none 0 0, .slice none 0 0], []⟩ 8 (by kernel_rfl) (by kernel_rfl) (by kernel_rfl) (by kernel_rfl)) ?_
  intro W base args ds gs before hval0 hW hcnd _
  have hval : ∀ (j : Nat) t v, Try.f7.params[j]? = some t → args[j]? = some v → Value.okWide Try.prog W .any base t v := hval0
  have hW' := hW
  obtain ⟨p, q, hA0, hV, rfl, hfz, hnd⟩ := hW
  have hA : DataW.TrodAll enc Try.prog W 0 (fun _ => true) true Try.f7.params.toList args.toList ds p := hA0
  rw [Try.params7] at hA hval
  obtain ⟨v0, vs0, d0, ds0, p0, q0, hargs, rfl, rfl, h0, r0⟩ := trodAll_cons hA
  obtain ⟨v1, vs1, d1, ds1, p1, q1, rfl, rfl, rfl, h1, r1⟩ := trodAll_cons r0
  obtain ⟨v2, vs2, d2, ds2, p2, q2, rfl, rfl, rfl, h2, r2⟩ := trodAll_cons r1
  obtain ⟨rfl, rfl, rfl⟩ := trodAll_nil r2
  obtain rfl : args = #[v0, v1, v2] := by cases args; simp_all
  obtain ⟨rfl, rfl⟩ := trodVars_none hV
  have k0 := h0
  have lt0 : ∀ x ∈ p0, x.block < W.heap.size := by obtain ⟨m, hm⟩ := k0; exact DataW.trod_lt m _ _ _ hm
  obtain ⟨a0, n0, c0, ts0, rfl, b0⟩ := open_tags Try.underlying22 Try.underlying34 ⟨rfl, rfl⟩ Try.underlying3 Try.underlying24 Try.underlying5 ⟨by kernel_rfl, by kernel_rfl, by kernel_rfl, by kernel_rfl⟩ (hval 0 22 v0 rfl rfl) h0
  have k1 := h1
  have lt1 : ∀ x ∈ p1, x.block < W.heap.size := by obtain ⟨m, hm⟩ := k1; exact DataW.trod_lt m _ _ _ hm
  obtain ⟨a1, n1, c1, l1, rfl, hn1, b1⟩ := open_bytes Try.underlying24 Try.underlying5 (by kernel_rfl) (hval 1 24 v1 rfl rfl) h1
  have k2 := h2
  have lt2 : ∀ x ∈ p2, x.block < W.heap.size := by obtain ⟨m, hm⟩ := k2; exact DataW.trod_lt m _ _ _ hm
  obtain ⟨a2, n2, c2, l2, rfl, hn2, b2⟩ := open_bytes Try.underlying24 Try.underlying5 (by kernel_rfl) (hval 2 24 v2 rfl rfl) h2
  clear hA0 hval0
  refine (walk W a0 n0 c0 ts0 b0 a1 n1 c1 l1 hn1 b1 a2 n2 c2 l2 hn2 b2).mono fun e W' ⟨he, bel⟩ => ?_
  subst he
  exact ⟨_, rfl, _, _, _, [], _, [], hW', trodAll_mk1 (shut_bool Try.underlying4 _), (trodAll_cons_mk (Below.trod laidOut (by kernel_rfl) (of_decide_eq_true (by kernel_rfl)) k0 bel lt0) (trodAll_cons_mk (Below.trod laidOut (by kernel_rfl) (of_decide_eq_true (by kernel_rfl)) k1 bel lt1) (trodAll_cons_mk (Below.trod laidOut (by kernel_rfl) (of_decide_eq_true (by kernel_rfl)) k2 bel lt2) trodAll_mk0))), rfl, bel.frame _, fun h => by cases h⟩
theorem over : Rows.tagsBackRow.holds Try.pinned (OpenSpec.ofChange Rows.tagsBackSpec) :=
  OpenClaim.holds_of_wide 7 Try.f7 rfl rfl rfl rfl rfl rfl rfl ⟨rfl, rfl, rfl, rfl, rfl⟩ rfl rfl rfl rfl rfl (by kernel_rfl) Try.func7 (by kernel_rfl)
    (of_decide_eq_true (by kernel_rfl)) (by unfold Func.isWrapper; first | (rw [if_pos (by decide +kernel)]; kernel_rfl) | (rw [if_neg (by decide +kernel)]; exact ⟨rfl, rfl⟩))
    (fun os started H enc _ => lifted os started H enc)
/-- The statement. -/
theorem proved : Rows.TagsBackSaid := over
end Go.Proofs.Ytlpafphlecajhaa.tagsBack
