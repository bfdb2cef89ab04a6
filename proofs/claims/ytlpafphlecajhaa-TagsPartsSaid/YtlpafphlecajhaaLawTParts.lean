/-
  For every row of tags (the first 70, each with the first 1600 bytes of its value) and every row of bytes (its first 1600): where both may be, and together are not too many nor too long, tags.Decode of the tags' bytes with the others behind them tells the tags of both (conciergelaw05.TagsParts answers true). No conditions.
-/
import Derived.Test.YtlpafphlecajhaaTagK
import Derived.Test.YtlpafphlecajhaaTagG
import Derived.Test.YtlpafphlecajhaaOpenT
import Derived.ProofKit
import Derived.OpenShut
import Derived.ChangeOld
namespace Go.Proofs.Ytlpafphlecajhaa.tagsParts
open Go.ChangeShapes Go.WideShapes Go.ChangeAt Go.RowKit
set_option linter.unusedVariables false
set_option linter.unusedSimpArgs false

/-- 'append(s, x...)' under a guard that is met: s the call's own, x whatever. -/
theorem wpList_append_gg {P : Program} (w : World) {ops : Array Oper} {rest : List Oper} {o : Oper} {a : Act} {Q : Exit → Act → World → Prop} (hw : Region.wanted o (yielded ops a.tmps) = true) (s x : Operand) (t : TypeId)
    (ho : o.op = .call { callee := .builtin .append, args := #[s, x], argTypes := #[t, t] })
    (base : Nat) (e : TypeId) (i : TypeInfo) (z : Value) (size bytes : Nat) (ht : P.underlying t = some (.slice e)) (hi : P.info? e = some i) (hz : i.zero = some z)
    (hsize : i.size = size) (hby : i.bytes = bytes) (hzs : z.cells.size = size) (hsz : 0 < size)
    (v : Value) (n : Nat) (xs : List Value) (hs : a.eval s = v) (hown : w.ownsRow base e size v n xs)
    (y : Value) (m : Nat) (ys : List Value) (hx : a.eval x = y) (hy : Rd w size y m ys) (h1 : ∀ u ∈ ys, u.oneCell' = true)
    (hbytes : (n + m) * bytes ≤ 140737488355328) (hb1 : 0 < bytes) (hbase : base ≤ w.heap.size)
    (h : ∀ v' w', w'.ownsRow base e size v' (n + m) (xs ++ ys) → w.grownBy w' v.ownBlock → wpList P ops Q rest (a.put o.dst v') w') : wpList P ops Q (o :: rest) a w := by
  refine wpList_step fun K hK => ?_
  rw [if_pos hw]
  exact wp_append_gr w o.dst s x t ho base e i z size bytes ht hi hz hsize hby hzs hsz v n xs hs hown y m ys hx hy h1 hbytes hb1 hbase rfl fun v' w' k1 k2 => hK _ _ (h v' w' k1 k2)
theorem TR.one_cells {w : World} {v : Value} {n : Nat} {ts : List Tg} (h : TR w v n ts) : ∀ u ∈ flat ts, u.oneCell' = true := by
  intro u hu
  obtain ⟨t, ht, hu⟩ := List.mem_flatMap.1 hu
  exact one_tag t.typ (h.vals t ht).oneCell u hu

set_option maxRecDepth 20000 in
set_option maxHeartbeats 8000000 in
theorem walk (W : World) (a0 : Option Addr) (n0 c0 : Nat) (ts0 : List Tg) (b0 : TR W (.slice a0 n0 c0) n0 ts0) (a1 : Option Addr) (n1 c1 : Nat) (l1 : List UInt8) (hn1 : l1.length = n1) (b1 : Bs W (.slice a1 n1 c1) l1) :
    Calls Try.prog 8 #[.slice a0 n0 c0, .slice a1 n1 c1] W fun e w' => e = .returned (.bool true) ∧ Below W.heap.size W w' := by
  obtain ⟨i0, hi, hz0, hz1, hz2⟩ := info_parts infoT
  obtain ⟨j0, hj, hy0, hy1, hy2⟩ := info_parts info5
  have AW := Lib.hid awake_any
  have FW := Lib.hid (few_any a0 n0 c0 ts0 W b0)
  have hlen := fewT_len ts0
  have hsm : ∀ x ∈ fewT ts0, x.l.length ≤ 1000000 := fun x hx => Nat.le_trans (fewT_small ts0 x hx) (by decide)
  obtain ⟨m, x, hm, hx, u0, hc0⟩ := cut_in hn1 b1
  have HC0 := Lib.hid hc0
  have HX := Lib.hid hx
  have HU := Lib.hid u0
  clear b0 hn1 b1 u0 hc0 hx
  go_enter Try.func8, Try.ntmps8
  go_wp2_with fail
  refine FW.out.mono ?_
  rintro e w1 ⟨a2, c2, rfl, htr, hb1⟩
  generalize fewT ts0 = ts at htr hlen hsm ⊢
  obtain ⟨n, hn⟩ : ∃ n, n = ts.length := ⟨_, rfl⟩
  rw [← hn] at htr ⊢
  have HN := Lib.hid hn
  have HB1 := Lib.hid hb1
  have HT1 := Lib.hid htr
  have hn70 : n ≤ 70 := by omega
  have E1 := Lib.hid (encode_any a2 n c2 ts w1 HT1.out (by omega) hsm)
  clear hb1 htr hsm hn hlen
  go_wp2_with fail
  refine (HC0.out _).mono ?_
  rintro e w' ⟨rfl, rfl⟩
  go_wp2_with fail
  refine E1.out.mono ?_
  rintro e w2 ⟨v2, rfl, hown2, hb2⟩
  have HB2 := Lib.hid (HB1.out.trans (hb2.mono HB1.out.size))
  have HT2 := Lib.hid (HT1.out.below hb2)
  have HV2 := Lib.hid hown2.bs
  have HU2 := Lib.hid (HU.out.below HB2.out)
  have E2 := Lib.hid (decode_any a1 m c1 x HX.out w2 HU2.out (by omega))
  obtain ⟨A2, L2, C2, ev, hL2, _, _⟩ := hown2.bs.sl
  have HL2 := Lib.hid hL2
  subst ev
  clear hown2 hb2 hL2
  go_wp2_with fail
  refine E2.out.mono ?_
  rintro e w3 ⟨v3, rfl, ⟨us, hus, hto⟩, hb3⟩
  have HB3 := Lib.hid (HB2.out.trans (hb3.mono HB2.out.size))
  have HT3 := Lib.hid (HT2.out.below hb3)
  have HV3 := Lib.hid (HV2.out.below hb3)
  have HU3 := Lib.hid (HU2.out.below hb3)
  have HR3 := Lib.hid hto.tr
  have HUS := Lib.hid hus
  obtain ⟨A3, C3, ev, _, _⟩ := hto.tr.shape
  subst ev
  obtain ⟨k, hk⟩ : ∃ k, k = us.length := ⟨_, rfl⟩
  have HKL := Lib.hid hk
  rw [← hk]
  obtain ⟨p, hp⟩ : ∃ p, p = encE (plain ts) := ⟨_, rfl⟩
  obtain ⟨q, hq⟩ : ∃ q, q = (dec x).2 := ⟨_, rfl⟩
  have HP := Lib.hid hp
  have HQ := Lib.hid hq
  rw [← hp, ← hq]
  clear hto hus hb3 hk hp hq
  have AW3 := Lib.hid (AW.out w3)
  by_cases hp0 : p = 0
  · by_cases hq0 : q = 0
    · have HE0 : Hid (encE (plain ts) = 0) := by show _ = _; rw [← HP.out]; exact hp0
      have HD0 : Hid (dec x = (plain us, 0)) := by
        exact Prod.ext HUS.out.symm (by rw [← HQ.out]; exact hq0)
      have hk64 : k ≤ 64 := by
        have := (encE_zero (dec_again HD0.out).1).1
        rw [plain_length, ← HKL.out] at this
        exact this
      subst hp0
      subst hq0
      obtain ⟨y, hy⟩ : ∃ y, y = wireT (plain ts) := ⟨_, rfl⟩
      have HY := Lib.hid hy
      have HYL : Hid (y.length = L2) := by show _ = _; rw [← HL2.out, encB_yes HE0.out, hy]
      have HV3' : Hid (Rd w3 1 (.slice A2 L2 C2) L2 (y.map u8v)) := by
        have := HV3.out
        rw [encB_yes HE0.out, ← hy] at this
        unfold Bs at this
        rw [HYL.out] at this
        exact this
      have hL14 : L2 ≤ 1494 := by rw [← HYL.out, hy]; exact (encE_zero HE0.out).2.2
      clear hy
      by_cases hs1 : L2 + m ≤ 1494
      · by_cases hs2 : n + k ≤ 64
        · have HDP : Hid (dec (y ++ x) = (plain ts ++ plain us, 0)) := by
            show _ = _
            rw [HY.out]
            exact dec_parts HE0.out HD0.out (by rw [← HY.out, HYL.out, HX.out]; exact hs1) (by rw [plain_length, plain_length, ← HN.out, ← HKL.out]; exact hs2)
          have hEA : Below w3.heap.size w3 (w3.alloc (.cells #[] 5)) := (Below.refl _ _).alloc (Nat.le_refl _) _
          have HEA := Lib.hid hEA
          have HOW : Hid ((w3.alloc (.cells #[] 5)).ownsRow w3.heap.size 5 1 (.slice (some ⟨w3.heap.size, 0, none⟩) 0 0) 0 []) := World.ownsRow_made _ _ _ (Nat.le_refl _) (Nat.zero_le _) rfl
          have HRA := Lib.hid (HV3'.out.below hEA)
          clear hEA
          go_wp2_with (at_builtin; refine wpList_append_gr _ rfl (.tmp 49) (.tmp 50) 24 rfl w3.heap.size 5 j0 (.int .u8 0) 1 1 Try.underlying24 hj hy0 hy1 hy2 rfl (by decide) _ _ _ rfl HOW.out _ _ _ rfl HRA.out (oneCell_u8 _) ?q1 (by decide) HEA.out.size ?_)
          case q1 => omega
          intro v4 w4 ho4 hg4
          have HO4 := Lib.hid ho4
          have HG4 := Lib.hid (HEA.out.trans (grown_below HOW.out HEA.out.size hg4))
          have HRB : Hid (Rd w4 1 (.slice a1 m c1) m (x.map u8v)) := by
            have := HU3.out.below HG4.out
            unfold Bs at this
            rw [HX.out] at this
            exact this
          clear ho4 hg4
          go_wp2_with (at_builtin; refine wpList_append_gr _ rfl (.tmp 51) (.tmp 52) 24 rfl w3.heap.size 5 j0 (.int .u8 0) 1 1 Try.underlying24 hj hy0 hy1 hy2 rfl (by decide) _ _ _ rfl HO4.out _ _ _ rfl HRB.out (oneCell_u8 _) ?q1 (by decide) HG4.out.size ?_)
          case q1 => omega
          intro v5 w5 ho5 hg5
          have HG5 := Lib.hid (HG4.out.trans (grown_below HO4.out HG4.out.size hg5))
          have hb5 : Bs w5 v5 (y ++ x) := by
            have hl : (y ++ x).length = 0 + L2 + m := by rw [List.length_append, HYL.out, HX.out]; omega
            unfold Bs
            rw [hl]
            simpa using own_rd ho5
          obtain ⟨A5, L5, C5, ev, hL5, _, _⟩ := hb5.sl
          subst ev
          have hL5' : L5 ≤ 1494 := by rw [← hL5, List.length_append, HYL.out, HX.out]; exact hs1
          have E5 := Lib.hid (decode_any A5 L5 C5 (y ++ x) hL5 w5 hb5 (by omega))
          have HB5 := Lib.hid (HB3.out.trans (HG5.out.mono HB3.out.size))
          have HT5 := Lib.hid (HT3.out.below HG5.out)
          have HR5 := Lib.hid (HR3.out.below HG5.out)
          clear ho5 hg5 hb5 hL5
          go_wp2_with fail
          refine E5.out.mono ?_
          rintro e w6 ⟨v6, rfl, ⟨xs, hxs, hto6⟩, hb6⟩
          rw [HDP.out] at hxs
          rw [HDP.out]
          have HB6 := Lib.hid (HB5.out.trans (hb6.mono HB5.out.size))
          have HT6 := Lib.hid (HT5.out.below hb6)
          have HR6 := Lib.hid (HR5.out.below hb6)
          have HZ6 := Lib.hid hto6.tr
          have HXS := Lib.hid hxs
          obtain ⟨A6, C6, ev, _, _⟩ := hto6.tr.shape
          subst ev
          obtain ⟨j, hj6⟩ : ∃ j, j = xs.length := ⟨_, rfl⟩
          have HJ := Lib.hid hj6
          rw [← hj6]
          have hEB : Below w6.heap.size w6 (w6.alloc (.cells #[] 34)) := (Below.refl _ _).alloc (Nat.le_refl _) _
          have HEB := Lib.hid hEB
          have HOX : Hid ((w6.alloc (.cells #[] 34)).ownsRow w6.heap.size 34 2 (.slice (some ⟨w6.heap.size, 0, none⟩) 0 0) 0 []) := World.ownsRow_made _ _ _ (Nat.le_refl _) (Nat.zero_le _) rfl
          have HTB := Lib.hid (HT6.out.below hEB)
          have HT1C := Lib.hid (TR.one_cells HT6.out)
          have HR1C := Lib.hid (TR.one_cells HR6.out)
          clear hEB hto6 hxs hb6 hj6
          go_wp2_with (at_builtin; refine wpList_append_gg _ rfl (.tmp 61) (.tmp 62) 22 rfl w6.heap.size 34 i0 _ 2 32 Try.underlying22 hi hz0 hz1 hz2 rfl (by decide) _ _ _ rfl HOX.out _ _ _ rfl HTB.out.rd HT1C.out ?q1 (by decide) HEB.out.size ?_)
          case q1 => omega
          intro v7 w7 ho7 hg7
          have HO7 := Lib.hid ho7
          have HG7 := Lib.hid (HEB.out.trans (grown_below HOX.out HEB.out.size hg7))
          have HRC : Hid (Rd w7 2 (.slice A3 k C3) k (flat us)) := by
            have := HR6.out.below HG7.out
            rw [← HKL.out] at this
            exact this.rd
          clear ho7 hg7
          go_wp2_with (at_builtin; refine wpList_append_gg _ rfl (.tmp 63) (.tmp 64) 22 rfl w6.heap.size 34 i0 _ 2 32 Try.underlying22 hi hz0 hz1 hz2 rfl (by decide) _ _ _ rfl HO7.out _ _ _ rfl HRC.out HR1C.out ?q1 (by decide) HG7.out.size ?_)
          case q1 => omega
          intro v8 w8 ho8 hg8
          have HG8 := Lib.hid (HG7.out.trans (grown_below HO7.out HG7.out.size hg8))
          have htr8 : TR w8 v8 (n + k) (ts ++ us) := by
            refine ⟨?_, fun t ht => ?_⟩
            · have := own_rd ho8
              rw [flat_append]
              exact this
            · rcases List.mem_append.1 ht with ht | ht
              · exact (HT6.out.below HG8.out).vals t ht
              · exact (HR6.out.below HG8.out).vals t ht
          obtain ⟨A8, C8, ev, _, _⟩ := htr8.shape
          subst ev
          have HB8 := Lib.hid (HB6.out.trans (HG8.out.mono HB6.out.size))
          have hz8 : TR w8 (.slice A6 j C6) j xs := by
            have := HZ6.out.below HG8.out
            rw [← HJ.out] at this
            exact this
          have SM := Lib.hid (same_true A6 A8 _ _ C6 C8 xs (ts ++ us) w8 hz8 htr8 (by rw [HXS.out, plain_append]))
          clear ho8 hg8 htr8 hz8
          go_wp2_with fail
          refine SM.out.mono ?_
          rintro e w9 ⟨rfl, hb9⟩
          have HB9 := Lib.hid (HB8.out.trans (hb9.mono HB8.out.size))
          clear hb9
          go_wp2_with fail
          refine (AW.out w9).mono ?_
          rintro e wx ⟨rfl, hbx⟩
          have HBX := Lib.hid (HB9.out.trans (hbx.mono HB9.out.size))
          clear hbx
          go_wp2
          go_ret
          exact ⟨rfl, HBX.out⟩
        · go_wp2_with fail
          refine AW3.out.mono ?_
          rintro e w4 ⟨rfl, hb4⟩
          have HB4 := Lib.hid (HB3.out.trans (hb4.mono HB3.out.size))
          clear hb4
          go_wp2
          go_ret
          exact ⟨rfl, HB4.out⟩
      · go_wp2_with fail
        refine AW3.out.mono ?_
        rintro e w4 ⟨rfl, hb4⟩
        have HB4 := Lib.hid (HB3.out.trans (hb4.mono HB3.out.size))
        clear hb4
        go_wp2
        go_ret
        exact ⟨rfl, HB4.out⟩
    · have hq0' : (q != 0) = true := by rw [bne_iff_ne]; exact hq0
      subst hp0
      go_wp2_with fail
      refine AW3.out.mono ?_
      rintro e w4 ⟨rfl, hb4⟩
      have HB4 := Lib.hid (HB3.out.trans (hb4.mono HB3.out.size))
      clear hb4
      go_wp2
      go_ret
      exact ⟨rfl, HB4.out⟩
  · have hp0' : (p != 0) = true := by rw [bne_iff_ne]; exact hp0
    go_wp2_with fail
    refine AW3.out.mono ?_
    rintro e w4 ⟨rfl, hb4⟩
    have HB4 := Lib.hid (HB3.out.trans (hb4.mono HB3.out.size))
    clear hb4
    go_wp2
    go_ret
    exact ⟨rfl, HB4.out⟩

theorem own : ownKnob Try.prog.godebug = none := by kernel_rfl
theorem laidOut : laidOutB Try.prog = true := by kernel_rfl
set_option maxRecDepth 100000 in
theorem lifted (os : Os) (started : os.Started) (H : Type) (enc : TypeId × Value → H) :
    ReturnsInHanded {} Try.checked os 8 .any (Rows.tagsPartsSpec.pre6 enc Try.prog Try.f8 Rows.tagsPartsRow.domain false) (Rows.tagsPartsSpec.post enc Try.prog Try.f8 false true false false) := by
  refine returnsInHanded_of_change (C := Try.checked) own started (by kernel_rfl) Try.func8
    (ChangeSpec.witness6 (enc := enc) (C := Try.checked) false ⟨#[], #[.slice none 0 0, .slice none 0 0], []⟩ 8 (by kernel_rfl) (by kernel_rfl) (by kernel_rfl) (by kernel_rfl)) ?_
  intro W base args ds gs before hval0 hW hcnd _
  have hval : ∀ (j : Nat) t v, Try.f8.params[j]? = some t → args[j]? = some v → Value.okWide Try.prog W .any base t v := hval0
  have hW' := hW
  obtain ⟨p, q, hA0, hV, rfl, hfz, hnd⟩ := hW
  have hA : DataW.TrodAll enc Try.prog W 0 (fun _ => true) true Try.f8.params.toList args.toList ds p := hA0
  rw [Try.params8] at hA hval
  obtain ⟨v0, vs0, d0, ds0, p0, q0, hargs, rfl, rfl, h0, r0⟩ := trodAll_cons hA
  obtain ⟨v1, vs1, d1, ds1, p1, q1, rfl, rfl, rfl, h1, r1⟩ := trodAll_cons r0
  obtain ⟨rfl, rfl, rfl⟩ := trodAll_nil r1
  obtain rfl : args = #[v0, v1] := by cases args; simp_all
  obtain ⟨rfl, rfl⟩ := trodVars_none hV
  have k0 := h0
  have lt0 : ∀ x ∈ p0, x.block < W.heap.size := by obtain ⟨m, hm⟩ := k0; exact DataW.trod_lt m _ _ _ hm
  obtain ⟨a0, n0, c0, ts0, rfl, b0⟩ := open_tags Try.underlying22 Try.underlying34 ⟨rfl, rfl⟩ Try.underlying3 Try.underlying24 Try.underlying5 ⟨by kernel_rfl, by kernel_rfl, by kernel_rfl, by kernel_rfl⟩ (hval 0 22 v0 rfl rfl) h0
  have k1 := h1
  have lt1 : ∀ x ∈ p1, x.block < W.heap.size := by obtain ⟨m, hm⟩ := k1; exact DataW.trod_lt m _ _ _ hm
  obtain ⟨a1, n1, c1, l1, rfl, hn1, b1⟩ := open_bytes Try.underlying24 Try.underlying5 (by kernel_rfl) (hval 1 24 v1 rfl rfl) h1
  clear hA0 hval0
  refine (walk W a0 n0 c0 ts0 b0 a1 n1 c1 l1 hn1 b1).mono fun e W' ⟨he, bel⟩ => ?_
  subst he
  exact ⟨_, rfl, _, _, _, [], _, [], hW', trodAll_mk1 (shut_bool Try.underlying4 _), (trodAll_cons_mk (Below.trod laidOut (by kernel_rfl) (of_decide_eq_true (by kernel_rfl)) k0 bel lt0) (trodAll_cons_mk (Below.trod laidOut (by kernel_rfl) (of_decide_eq_true (by kernel_rfl)) k1 bel lt1) trodAll_mk0)), rfl, bel.frame _, fun h => by cases h⟩
theorem over : Rows.tagsPartsRow.holds Try.pinned (OpenSpec.ofChange Rows.tagsPartsSpec) :=
  OpenClaim.holds_of_wide 8 Try.f8 rfl rfl rfl rfl rfl rfl rfl ⟨rfl, rfl, rfl, rfl, rfl⟩ rfl rfl rfl rfl rfl (by kernel_rfl) Try.func8 (by kernel_rfl)
    (of_decide_eq_true (by kernel_rfl)) (by unfold Func.isWrapper; first | (rw [if_pos (by decide +kernel)]; kernel_rfl) | (rw [if_neg (by decide +kernel)]; exact ⟨rfl, rfl⟩))
    (fun os started H enc _ => lifted os started H enc)
/-- The statement. -/
theorem proved : Rows.TagsPartsSaid := over
end Go.Proofs.Ytlpafphlecajhaa.tagsParts
